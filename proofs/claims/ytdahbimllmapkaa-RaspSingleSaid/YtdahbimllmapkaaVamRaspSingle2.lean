/- rasp's functions and the law's, by the logic of trees: what each gives back for all that it may be given. -/
import Derived.Test.YtdahbimllmapkaaVamRaspSingle1
namespace Go.Proofs.Ytdahbimllmapkaa.raspSingle
open Vam
set_option linter.unusedVariables false
set_option linter.unusedSimpArgs false
set_option linter.constructorNameAsVariable false
variable {is : FuncId → Bool} {orc : Known}
theorem ty28 : tyOf Try.prog 28 = .array 2 3 := by kernel_rfl
theorem valid_ok {s : Shop} (h : valid s.tools s.keys s.flo s.fhi = true) : SOk s := by
  unfold valid at h
  rw [Bool.and_eq_true, Bool.and_eq_true] at h
  obtain ⟨⟨h1, h2⟩, h3⟩ := h
  unfold bnds0 Bnd.okR at h1
  unfold bnds74 at h2
  unfold bnds75 at h3
  rw [List.all_flatMap, List.all_eq_true] at h2 h3
  simp at h1
  refine ⟨by omega, by omega, by omega, fun t ht => ?_, fun t ht => ?_⟩
  · have := h2 t ht
    simp [Bnd.okR] at this; omega
  · have := h3 t ht
    simp [Bnd.okR] at this; omega
theorem ok_valid {s : Shop} (h : SOk s) : valid s.tools s.keys s.flo s.fhi = true := by
  unfold valid
  rw [Bool.and_eq_true, Bool.and_eq_true]
  have q1 := h.nt; have q2 := h.fine; have q3 := h.nk
  refine ⟨⟨?_, ?_⟩, ?_⟩
  · unfold bnds0 Bnd.okR
    simp; omega
  · unfold bnds74
    rw [List.all_flatMap, List.all_eq_true]
    intro t ht
    have := h.tools t ht
    simp [Bnd.okR]; omega
  · unfold bnds75
    rw [List.all_flatMap, List.all_eq_true]
    intro t ht
    have := h.keys t ht
    simp [Bnd.okR]; omega
theorem chk (hi : Off is) (s : Shop) : RetP Try.prog is orc 16 [s.u] (.int .i64 (checkR s.tools s.keys s.flo s.fhi)) := ret16 (hi 16 (by decide)) (hi 53 (by decide)) (hi 70 (by decide)) (hi 71 (by decide)) (hi 72 (by decide)) (hi 73 (by decide)) (hi 78 (by decide)) _ _ _ _
theorem chk_ok {s : Shop} (h : SOk s) : checkR s.tools s.keys s.flo s.fhi = 0 := by unfold checkR; rw [ok_valid h]; rfl
theorem ok_chk {s : Shop} (h : checkR s.tools s.keys s.flo s.fhi = 0) : SOk s := valid_ok (by
  unfold checkR at h
  split at h
  · assumption
  · cases h)
theorem tmod_neg_lt {a m : Int} (hm : 0 < m) : -m < a.tmod m ∧ a.tmod m < m := by
  have h1 := Int.tmod_lt_of_pos a hm
  have h2 : -(m) < a.tmod m := by
    have := Int.tmod_lt_of_pos (-a) hm
    rw [Int.neg_tmod] at this
    omega
  exact ⟨h2, h1⟩
theorem turn_neg {n m : Int} (hm : 0 < m) (h : n.tmod m < 0) : n.tmod m + m = n % m := by
  have p1 := Int.emod_nonneg n (show m ≠ 0 by omega)
  have p2 := Int.emod_lt_of_pos n hm
  have p3 := @Int.emod_eq_tmod n m
  split at p3 <;> omega
theorem turn_pos {n m : Int} (hm : 0 < m) (h : 0 ≤ n.tmod m) : n.tmod m = n % m := by
  have p1 := Int.emod_nonneg n (show m ≠ 0 by omega)
  have p2 := Int.emod_lt_of_pos n hm
  have p3 := @Int.emod_eq_tmod n m
  split at p3 <;> omega
def nthI (l : List Int) (i : Nat) : Int := (l[i % l.length]?).getD 0
def drawI (a b n : Int) : Int := if b ≤ a then a else a + n % (b - a + 1)
theorem draw_b {a b : Int} (n : Int) (h : a ≤ b) : a ≤ drawI a b n ∧ drawI a b n ≤ b := by
  unfold drawI
  split
  · omega
  · have p1 := Int.emod_nonneg n (show b - a + 1 ≠ 0 by omega)
    have p2 := Int.emod_lt_of_pos n (show 0 < b - a + 1 by omega)
    omega

-- 34 saron/saronref00.Sits params [3, 3, 3] pure True
noncomputable def b34 : Code := (Try.f34.body).getD .skip
theorem body34 : bodyOf Try.prog 34 = some (15, b34, [.tmp 6]) := by kernel_rfl
theorem pure34 : pureFn Try.prog 34 = true := by kernel_rfl
set_option maxHeartbeats 4000000 in
theorem ret34 (hi : Off is) (n lo up : Int) : RetP Try.prog is orc 34 [.int .i64 n, .int .i64 lo, .int .i64 up] (.bool (decide (lo ≤ n) && decide (n ≤ up))) := by
  refine ret_of body34 pure34 (hi 34 (by decide)) rfl rfl (dat_l3 (.int _ _ _) (.int _ _ _) (.int _ _ _)) (.inl (.bool _ _)) ?_
  refine k_seq ?_
  refine k_region ?_   -- region 0 base.go:9
  refine o_assign rfl ?_
  refine o_nil ?_
  refine k_seq ?_
  refine k_region ?_   -- region 1 base.go:9
  refine o_move rfl ?_
  refine o_move rfl ?_
  refine o_leq rfl rfl rfl ?_
  refine o_move rfl ?_
  refine o_guard rfl rfl rfl rfl (fun h1 => ?_) (fun h1 => ?_)   -- slot 10
  · refine o_move rfl ?_
    refine o_guard rfl rfl rfl rfl (fun _ => ?_) (fun h => by rw [h1] at h; cases h)
    refine o_move rfl ?_
    refine o_guard rfl rfl rfl rfl (fun _ => ?_) (fun h => by rw [h1] at h; cases h)
    refine o_leq rfl rfl rfl ?_
    refine o_pickT rfl rfl h1 ?_
    refine o_assign rfl ?_
    refine o_nil ?_
    refine k_ret ?_
    refine ⟨.inr rfl, _, .cons _ _ _ _ (.tmp 6) .nil, ?_⟩
    rw [h1]; exact .refl _
  · refine o_guard rfl rfl rfl rfl (fun h => by rw [h1] at h; cases h) (fun _ => ?_)
    refine o_guard rfl rfl rfl rfl (fun h => by rw [h1] at h; cases h) (fun _ => ?_)
    refine o_pickF rfl rfl h1 ?_
    refine o_assign rfl ?_
    refine o_nil ?_
    refine k_ret ?_
    refine ⟨.inr rfl, _, .cons _ _ _ _ (.tmp 6) .nil, ?_⟩
    rw [h1]; exact .refl _

-- 54 saron/saronref00.Good params [24, 3, 3] pure True
noncomputable def b54 : Code := (Try.f54.body).getD .skip
theorem body54 : bodyOf Try.prog 54 = some (24, b54, [.tmp 6]) := by kernel_rfl
theorem pure54 : pureFn Try.prog 54 = true := by kernel_rfl
set_option maxHeartbeats 4000000 in
theorem ret54 (hi : Off is) (a b lo up : Int) : RetP Try.prog is orc 54 [spanU a b, .int .i64 lo, .int .i64 up] (.bool (decide (lo ≤ a) && (decide (a ≤ b) && decide (b ≤ up)))) := by
  refine ret_of body54 pure54 (hi 54 (by decide)) rfl rfl (dat_l3 (dat_span _ _ _) (.int _ _ _) (.int _ _ _)) (.inl (.bool _ _)) ?_
  refine k_seq ?_
  refine k_region ?_   -- region 0 base.go:52
  refine o_box rfl rfl ?_
  refine o_assign rfl ?_
  refine o_nil ?_
  refine k_seq ?_
  refine k_region ?_   -- region 1 base.go:53
  refine o_move rfl ?_
  first | refine o_faddr rfl rfl fld24_0 ?_ | refine o_faddrR rfl rfl fld24_0 ?_
  first | refine o_load1 rfl rfl rfl sh3 rfl ?_ | refine o_loadR1 rfl rfl sh3 rfl ?_
  refine o_leq rfl rfl rfl ?_
  refine o_move rfl ?_
  refine o_guard rfl rfl rfl rfl (fun h1 => ?_) (fun h1 => ?_)   -- slot 11
  · first | refine o_faddr rfl rfl fld24_0 ?_ | refine o_faddrR rfl rfl fld24_0 ?_
    refine o_guard rfl rfl rfl rfl (fun _ => ?_) (fun h => by rw [h1] at h; cases h)
    first | refine o_load1 rfl rfl rfl sh3 rfl ?_ | refine o_loadR1 rfl rfl sh3 rfl ?_
    refine o_guard rfl rfl rfl rfl (fun _ => ?_) (fun h => by rw [h1] at h; cases h)
    first | refine o_faddr rfl rfl fld24_1 ?_ | refine o_faddrR rfl rfl fld24_1 ?_
    refine o_guard rfl rfl rfl rfl (fun _ => ?_) (fun h => by rw [h1] at h; cases h)
    first | refine o_load1 rfl rfl rfl sh3 rfl ?_ | refine o_loadR1 rfl rfl sh3 rfl ?_
    refine o_guard rfl rfl rfl rfl (fun _ => ?_) (fun h => by rw [h1] at h; cases h)
    refine o_leq rfl rfl rfl ?_
    refine o_pickT rfl rfl h1 ?_
    refine o_move rfl ?_
    refine o_guard rfl rfl rfl rfl (fun h2 => ?_) (fun h2 => ?_)   -- slot 18
    · first | refine o_faddr rfl rfl fld24_1 ?_ | refine o_faddrR rfl rfl fld24_1 ?_
      refine o_guard rfl rfl rfl rfl (fun _ => ?_) (fun h => by rw [h2] at h; cases h)
      first | refine o_load1 rfl rfl rfl sh3 rfl ?_ | refine o_loadR1 rfl rfl sh3 rfl ?_
      refine o_guard rfl rfl rfl rfl (fun _ => ?_) (fun h => by rw [h2] at h; cases h)
      refine o_move rfl ?_
      refine o_guard rfl rfl rfl rfl (fun _ => ?_) (fun h => by rw [h2] at h; cases h)
      refine o_leq rfl rfl rfl ?_
      refine o_pickT rfl rfl h2 ?_
      refine o_assign rfl ?_
      refine o_nil ?_
      refine k_ret ?_
      refine ⟨.inr rfl, _, .cons _ _ _ _ (.tmp 6) .nil, ?_⟩
      rw [h1, h2]; exact .refl _
    · refine o_guard rfl rfl rfl rfl (fun h => by rw [h2] at h; cases h) (fun _ => ?_)
      refine o_guard rfl rfl rfl rfl (fun h => by rw [h2] at h; cases h) (fun _ => ?_)
      refine o_guard rfl rfl rfl rfl (fun h => by rw [h2] at h; cases h) (fun _ => ?_)
      refine o_pickF rfl rfl h2 ?_
      refine o_assign rfl ?_
      refine o_nil ?_
      refine k_ret ?_
      refine ⟨.inr rfl, _, .cons _ _ _ _ (.tmp 6) .nil, ?_⟩
      rw [h1, h2]; exact .refl _
  · refine o_guard rfl rfl rfl rfl (fun h => by rw [h1] at h; cases h) (fun _ => ?_)
    refine o_guard rfl rfl rfl rfl (fun h => by rw [h1] at h; cases h) (fun _ => ?_)
    refine o_guard rfl rfl rfl rfl (fun h => by rw [h1] at h; cases h) (fun _ => ?_)
    refine o_guard rfl rfl rfl rfl (fun h => by rw [h1] at h; cases h) (fun _ => ?_)
    refine o_pickF rfl rfl h1 ?_
    refine o_move rfl ?_
    refine o_guard rfl rfl rfl rfl (fun h => by cases h) (fun _ => ?_)
    refine o_guard rfl rfl rfl rfl (fun h => by cases h) (fun _ => ?_)
    refine o_guard rfl rfl rfl rfl (fun h => by cases h) (fun _ => ?_)
    refine o_guard rfl rfl rfl rfl (fun h => by cases h) (fun _ => ?_)
    refine o_pickF rfl rfl rfl ?_
    refine o_assign rfl ?_
    refine o_nil ?_
    refine k_ret ?_
    refine ⟨.inr rfl, _, .cons _ _ _ _ (.tmp 6) .nil, ?_⟩
    rw [h1]; exact .refl _

-- 35 saron/saronref00.Bears params [24, 3] pure True
noncomputable def b35 : Code := (Try.f35.body).getD .skip
theorem body35 : bodyOf Try.prog 35 = some (11, b35, [.tmp 4]) := by kernel_rfl
theorem pure35 : pureFn Try.prog 35 = true := by kernel_rfl
set_option maxHeartbeats 4000000 in
theorem ret35 (hi : Off is) (a b n : Int) : RetP Try.prog is orc 35 [spanU a b, .int .i64 n] (.bool (decide (a ≤ n) && decide (n ≤ b))) := by
  refine ret_of body35 pure35 (hi 35 (by decide)) rfl rfl (dat_l2 (dat_span _ _ _) (.int _ _ _)) (.inl (.bool _ _)) ?_
  refine k_seq ?_
  refine k_region ?_   -- region 0 base.go:49
  refine o_box rfl rfl ?_
  refine o_assign rfl ?_
  refine o_nil ?_
  refine k_seq ?_
  refine k_region ?_   -- region 1 base.go:49
  refine o_move rfl ?_
  first | refine o_faddr rfl rfl fld24_0 ?_ | refine o_faddrR rfl rfl fld24_0 ?_
  first | refine o_load1 rfl rfl rfl sh3 rfl ?_ | refine o_loadR1 rfl rfl sh3 rfl ?_
  first | refine o_faddr rfl rfl fld24_1 ?_ | refine o_faddrR rfl rfl fld24_1 ?_
  first | refine o_load1 rfl rfl rfl sh3 rfl ?_ | refine o_loadR1 rfl rfl sh3 rfl ?_
  refine o_call rfl (ret34 hi _ _ _) (.lrefl _) ?_
  refine o_assign rfl ?_
  refine o_nil ?_
  refine k_ret ?_
  refine ⟨.inr rfl, _, .cons _ _ _ _ (.tmp 4) .nil, ?_⟩
  exact .refl _

-- 40 saron/saronref00.Turn params [3, 3] pure True
noncomputable def b40 : Code := (Try.f40.body).getD .skip
theorem body40 : bodyOf Try.prog 40 = some (17, b40, [.tmp 4]) := by kernel_rfl
theorem pure40 : pureFn Try.prog 40 = true := by kernel_rfl
set_option maxHeartbeats 4000000 in
theorem ret40 (hi : Off is) (n m : Int) (hm : 0 < m) (hb : m ≤ 4611686018427387904) : RetP Try.prog is orc 40 [.int .i64 n, .int .i64 m] (.int .i64 (n % m)) := by
  refine ret_of body40 pure40 (hi 40 (by decide)) rfl rfl (dat_l2 (.int _ _ _) (.int _ _ _)) (.inl (.int _ _ _)) ?_
  refine k_seq ?_
  refine k_region ?_   -- region 0 base.go:12
  refine o_assign rfl ?_
  refine o_nil ?_
  refine k_seq ?_
  refine k_seq ?_
  refine k_region ?_   -- region 1 base.go:13
  refine o_move rfl ?_
  refine o_lss rfl rfl rfl ?_
  refine o_nil ?_
  refine k_cond rfl (fun h1 => ?_) (fun h1 => ?_)   -- slot 7
  · refine k_seq ?_
    refine k_region ?_   -- region 2 base.go:14
    refine o_assign rfl ?_
    refine o_nil ?_
    refine k_ret ?_
    refine ⟨.inr rfl, _, .cons _ _ _ _ (.tmp 4) .nil, ?_⟩
    exact absurd (of_decide_eq_true h1) (by omega)
  · refine k_skip ?_
    refine k_seq ?_
    refine k_region ?_   -- region 3 base.go:16
    refine o_move rfl ?_
    refine o_move rfl ?_
    refine o_rem rfl rfl rfl (by omega) ?_
    refine o_assign rfl ?_
    refine o_nil ?_
    refine k_seq ?_
    refine k_seq ?_
    refine k_region ?_   -- region 4 base.go:17
    refine o_move rfl ?_
    refine o_lss rfl rfl rfl ?_
    refine o_nil ?_
    refine k_cond rfl (fun h2 => ?_) (fun h2 => ?_)   -- slot 12
    · refine k_region ?_   -- region 5 base.go:18
      refine o_move rfl ?_
      refine o_move rfl ?_
      refine o_add rfl rfl rfl (by have := tmod_neg_lt (a := n) hm; unfold I64; omega) ?_
      refine o_assign rfl ?_
      refine o_nil ?_
      refine k_seq ?_
      refine k_region ?_   -- region 6 base.go:20
      refine o_move rfl ?_
      refine o_assign rfl ?_
      refine o_nil ?_
      refine k_ret ?_
      refine ⟨.inr rfl, _, .cons _ _ _ _ (.tmp 4) .nil, ?_⟩
      rw [show n.tmod m + m = n % m from turn_neg hm (of_decide_eq_true h2)]; exact .refl _
    · refine k_skip ?_
      refine k_seq ?_
      refine k_region ?_   -- region 6 base.go:20
      refine o_move rfl ?_
      refine o_assign rfl ?_
      refine o_nil ?_
      refine k_ret ?_
      refine ⟨.inr rfl, _, .cons _ _ _ _ (.tmp 4) .nil, ?_⟩
      rw [show n.tmod m = n % m from turn_pos hm (by have := of_decide_eq_false h2; omega)]; exact .refl _

set_option maxHeartbeats 4000000 in
theorem ret40n (hi : Off is) (n m : Int) (hm : 0 < m) (hn : 0 ≤ n) : RetP Try.prog is orc 40 [.int .i64 n, .int .i64 m] (.int .i64 (n % m)) := by
  refine ret_of body40 pure40 (hi 40 (by decide)) rfl rfl (dat_l2 (.int _ _ _) (.int _ _ _)) (.inl (.int _ _ _)) ?_
  refine k_seq ?_
  refine k_region ?_   -- region 0 base.go:12
  refine o_assign rfl ?_
  refine o_nil ?_
  refine k_seq ?_
  refine k_seq ?_
  refine k_region ?_   -- region 1 base.go:13
  refine o_move rfl ?_
  refine o_lss rfl rfl rfl ?_
  refine o_nil ?_
  refine k_cond rfl (fun h1 => ?_) (fun h1 => ?_)   -- slot 7
  · refine k_seq ?_
    refine k_region ?_   -- region 2 base.go:14
    refine o_assign rfl ?_
    refine o_nil ?_
    refine k_ret ?_
    refine ⟨.inr rfl, _, .cons _ _ _ _ (.tmp 4) .nil, ?_⟩
    exact absurd (of_decide_eq_true h1) (by omega)
  · refine k_skip ?_
    refine k_seq ?_
    refine k_region ?_   -- region 3 base.go:16
    refine o_move rfl ?_
    refine o_move rfl ?_
    refine o_rem rfl rfl rfl (by omega) ?_
    refine o_assign rfl ?_
    refine o_nil ?_
    refine k_seq ?_
    refine k_seq ?_
    refine k_region ?_   -- region 4 base.go:17
    refine o_move rfl ?_
    refine o_lss rfl rfl rfl ?_
    refine o_nil ?_
    refine k_cond rfl (fun h2 => ?_) (fun h2 => ?_)   -- slot 12
    · exact absurd (show n.tmod m < 0 from of_decide_eq_true h2) (by have := Int.tmod_nonneg m hn; omega)
    · refine k_skip ?_
      refine k_seq ?_
      refine k_region ?_   -- region 6 base.go:20
      refine o_move rfl ?_
      refine o_assign rfl ?_
      refine o_nil ?_
      refine k_ret ?_
      refine ⟨.inr rfl, _, .cons _ _ _ _ (.tmp 4) .nil, ?_⟩
      rw [show n.tmod m = n % m from turn_pos hm (by have := of_decide_eq_false h2; omega)]; exact .refl _

-- 37 saron/saronref00.Nth params [38, 3] pure True
noncomputable def b37 : Code := (Try.f37.body).getD .skip
theorem body37 : bodyOf Try.prog 37 = some (15, b37, [.tmp 4]) := by kernel_rfl
theorem pure37 : pureFn Try.prog 37 = true := by kernel_rfl
set_option maxHeartbeats 4000000 in
theorem ret37 (hi : Off is) (l : List Int) (i : Nat) : RetP Try.prog is orc 37 [.lst .ro 1 (intsU l), .int .i64 i] (.int .i64 (nthI l i)) := by
  refine ret_of body37 pure37 (hi 37 (by decide)) rfl rfl (dat_l2 (dat_ints 6 .ro (fun h => by cases h) 1 l) (.int _ _ _)) (.inl (.int _ _ _)) ?_
  refine k_seq ?_
  refine k_region ?_   -- region 0 base.go:143
  refine o_assign rfl ?_
  refine o_nil ?_
  refine k_seq ?_
  refine k_seq ?_
  refine k_region ?_   -- region 1 base.go:144
  refine o_move rfl ?_
  refine o_len rfl ty38 rfl rfl ?_
  refine o_eql rfl rfl rfl ?_
  refine o_nil ?_
  refine k_cond rfl (fun h1 => ?_) (fun h1 => ?_)   -- slot 7
  · refine k_seq ?_
    refine k_region ?_   -- region 2 base.go:145
    refine o_assign rfl ?_
    refine o_nil ?_
    refine k_ret ?_
    refine ⟨.inr rfl, _, .cons _ _ _ _ (.tmp 4) .nil, ?_⟩
    have h0 : l = [] := by
      have := of_decide_eq_true h1
      simp at this; exact this
    rw [h0]; exact .refl _
  · have hl : 0 < l.length := by
      have := of_decide_eq_false h1
      simp at this; exact List.length_pos_iff.2 this
    obtain ⟨q, hq⟩ : ∃ q, l[i % l.length]? = some q := ⟨_, List.getElem?_eq_getElem (Nat.mod_lt i hl)⟩
    have he : ((i : Int) % ((intsU l).length : Int)) = ((i % l.length : Nat) : Int) := by simp
    refine k_skip ?_
    refine k_seq ?_
    refine k_region ?_   -- region 3 base.go:147
    refine o_move rfl ?_
    refine o_move rfl ?_
    refine o_move rfl ?_
    refine o_len rfl ty38 rfl rfl ?_
    refine o_call rfl (ret40n hi i _ (by simp; omega) (Int.natCast_nonneg i)) (.lrefl _) ?_
    refine o_idx (u := .int .i64 q) rfl ty38 rfl rfl (Int.emod_nonneg _ (by simp only [List.length_map]; omega)) (by rw [he, Int.toNat_natCast]; simp [hq]) cl3 ?_
    first | refine o_load1 rfl rfl rfl sh3 rfl ?_ | refine o_loadR1 rfl rfl sh3 rfl ?_
    refine o_assign rfl ?_
    refine o_nil ?_
    refine k_ret ?_
    refine ⟨.inr rfl, _, .cons _ _ _ _ (.tmp 4) .nil, ?_⟩
    rw [show nthI l i = q by unfold nthI; rw [hq]; rfl]; exact .refl _

-- 36 saron/saronref00.Draw params [24, 3] pure True
noncomputable def b36 : Code := (Try.f36.body).getD .skip
theorem body36 : bodyOf Try.prog 36 = some (34, b36, [.tmp 4]) := by kernel_rfl
theorem pure36 : pureFn Try.prog 36 = true := by kernel_rfl
set_option maxHeartbeats 4000000 in
theorem ret36 (hi : Off is) (a b n : Int) (hb : -1000 ≤ a ∧ b ≤ 1000) : RetP Try.prog is orc 36 [spanU a b, .int .i64 n] (.int .i64 (drawI a b n)) := by
  refine ret_of body36 pure36 (hi 36 (by decide)) rfl rfl (dat_l2 (dat_span _ _ _) (.int _ _ _)) (.inl (.int _ _ _)) ?_
  refine k_seq ?_
  refine k_region ?_   -- region 0 base.go:151
  refine o_box rfl rfl ?_
  refine o_assign rfl ?_
  refine o_nil ?_
  refine k_seq ?_
  refine k_seq ?_
  refine k_region ?_   -- region 1 base.go:152
  first | refine o_faddr rfl rfl fld24_1 ?_ | refine o_faddrR rfl rfl fld24_1 ?_
  first | refine o_load1 rfl rfl rfl sh3 rfl ?_ | refine o_loadR1 rfl rfl sh3 rfl ?_
  first | refine o_faddr rfl rfl fld24_0 ?_ | refine o_faddrR rfl rfl fld24_0 ?_
  first | refine o_load1 rfl rfl rfl sh3 rfl ?_ | refine o_loadR1 rfl rfl sh3 rfl ?_
  refine o_leq rfl rfl rfl ?_
  refine o_nil ?_
  refine k_cond rfl (fun h1 => ?_) (fun h1 => ?_)   -- slot 10
  · refine k_seq ?_
    refine k_region ?_   -- region 2 base.go:153
    first | refine o_faddr rfl rfl fld24_0 ?_ | refine o_faddrR rfl rfl fld24_0 ?_
    first | refine o_load1 rfl rfl rfl sh3 rfl ?_ | refine o_loadR1 rfl rfl sh3 rfl ?_
    refine o_assign rfl ?_
    refine o_nil ?_
    refine k_ret ?_
    refine ⟨.inr rfl, _, .cons _ _ _ _ (.tmp 4) .nil, ?_⟩
    rw [show drawI a b n = a from if_pos (of_decide_eq_true h1)]; exact .refl _
  · have hab : ¬ b ≤ a := of_decide_eq_false h1
    have p1 := Int.emod_nonneg n (show b - a + 1 ≠ 0 by omega)
    have p2 := Int.emod_lt_of_pos n (show 0 < b - a + 1 by omega)
    refine k_skip ?_
    refine k_seq ?_
    refine k_region ?_   -- region 3 base.go:155
    first | refine o_faddr rfl rfl fld24_1 ?_ | refine o_faddrR rfl rfl fld24_1 ?_
    first | refine o_load1 rfl rfl rfl sh3 rfl ?_ | refine o_loadR1 rfl rfl sh3 rfl ?_
    first | refine o_faddr rfl rfl fld24_0 ?_ | refine o_faddrR rfl rfl fld24_0 ?_
    first | refine o_load1 rfl rfl rfl sh3 rfl ?_ | refine o_loadR1 rfl rfl sh3 rfl ?_
    refine o_sub rfl rfl rfl (by unfold I64; omega) ?_
    refine o_add rfl rfl rfl (by unfold I64; omega) ?_
    refine o_assign rfl ?_
    refine o_nil ?_
    refine k_seq ?_
    refine k_seq ?_
    refine k_region ?_   -- region 4 base.go:156
    refine o_move rfl ?_
    refine o_lss rfl rfl rfl ?_
    refine o_nil ?_
    refine k_cond rfl (fun h2 => ?_) (fun h2 => ?_)   -- slot 20
    · refine k_seq ?_
      refine k_region ?_   -- region 5 base.go:158
      refine o_move rfl ?_
      first | refine o_faddr rfl rfl fld24_0 ?_ | refine o_faddrR rfl rfl fld24_0 ?_
      first | refine o_load1 rfl rfl rfl sh3 rfl ?_ | refine o_loadR1 rfl rfl sh3 rfl ?_
      refine o_max rfl rfl rfl ?_
      first | refine o_faddr rfl rfl fld24_1 ?_ | refine o_faddrR rfl rfl fld24_1 ?_
      first | refine o_load1 rfl rfl rfl sh3 rfl ?_ | refine o_loadR1 rfl rfl sh3 rfl ?_
      refine o_min rfl rfl rfl ?_
      refine o_assign rfl ?_
      refine o_nil ?_
      refine k_ret ?_
      refine ⟨.inr rfl, _, .cons _ _ _ _ (.tmp 4) .nil, ?_⟩
      exact absurd (show b - a + 1 < 1 from of_decide_eq_true h2) (by have := show ¬ b ≤ a from of_decide_eq_false h1; omega)
    · refine k_skip ?_
      refine k_seq ?_
      refine k_draw [.plain, .read true, .plain, .plain, .read false, .plain, .plain] (by kernel_rfl) (by kernel_rfl) (by kernel_rfl) ?_   -- region 6
      first | refine d_plain (o_faddr rfl rfl fld24_0 (o_nil rfl)) ?_ | refine d_plain (o_faddrR rfl rfl fld24_0 (o_nil rfl)) ?_
      first | refine d_load rfl (o_load1 rfl rfl rfl sh3 rfl (o_nil rfl)) ?_ | refine d_load rfl (o_loadR1 rfl rfl sh3 rfl (o_nil rfl)) ?_
      refine d_plain (o_move rfl (o_nil rfl)) ?_
      refine d_plain (o_move rfl (o_nil rfl)) ?_
      refine d_callR rfl (ret40 hi n (b - a + 1) (by omega) (by omega)) (.int _ _) (.lrefl _) ?_
      refine d_plain (o_add rfl rfl rfl (by unfold I64; omega) (o_nil rfl)) ?_
      refine d_plain (o_assign rfl (o_nil rfl)) ?_
      refine d_nil ?_
      refine k_ret ?_
      refine ⟨.inr rfl, _, .cons _ _ _ _ (.tmp 4) .nil, ?_⟩
      rw [show drawI a b n = a + n % (b - a + 1) from if_neg (of_decide_eq_false h1)]; exact .refl _

-- 33 saron/saronlaw03.state params [28] pure True
noncomputable def b33 : Code := (Try.f33.body).getD .skip
theorem body33 : bodyOf Try.prog 33 = some (11, b33, [.tmp 2, .tmp 3]) := by kernel_rfl
theorem pure33 : pureFn Try.prog 33 = true := by kernel_rfl
set_option maxHeartbeats 4000000 in
theorem ret33 (hi : Off is) (a b : Int) : RetP Try.prog is orc 33 [.agg [.int .i64 a, .int .i64 b]] (.tup [.int .i64 (a % 121 - 60), .int .i64 (b % 31)]) := by
  refine ret_of body33 pure33 (hi 33 (by decide)) rfl rfl (dat_l1 (dat_span _ _ _)) (.inr ⟨_, rfl, dat_l2 (.int _ _ _) (.int _ _ _)⟩) ?_
  have p1 := Int.emod_nonneg a (show (121 : Int) ≠ 0 by omega)
  have p2 := Int.emod_lt_of_pos a (show (0 : Int) < 121 by omega)
  refine k_seq ?_
  refine k_region ?_   -- region 0 outright.go:52
  refine o_box rfl rfl ?_
  refine o_assign rfl ?_
  refine o_assign rfl ?_
  refine o_nil ?_
  refine k_seq ?_
  refine k_draw [.plain, .read true, .read false, .plain, .plain, .read true, .plain, .plain, .plain] (by kernel_rfl) (by kernel_rfl) (by kernel_rfl) ?_   -- region 1
  first | refine d_plain (o_idxA rfl ty28 rfl rfl (by omega) (by omega) cl3 (o_nil rfl)) ?_ | refine d_plain (o_idxE rfl ty28 rfl rfl (by omega) (by omega) cl3 (o_nil rfl)) ?_
  first | refine d_load rfl (o_load1 rfl rfl rfl sh3 rfl (o_nil rfl)) ?_ | refine d_load rfl (o_loadR1 rfl rfl sh3 rfl (o_nil rfl)) ?_
  refine d_callR rfl (ret40 hi a 121 (by omega) (by omega)) (.int _ _) (.lrefl _) ?_
  refine d_plain (o_sub rfl rfl rfl (by unfold I64; omega) (o_nil rfl)) ?_
  first | refine d_plain (o_idxA rfl ty28 rfl rfl (by omega) (by omega) cl3 (o_nil rfl)) ?_ | refine d_plain (o_idxE rfl ty28 rfl rfl (by omega) (by omega) cl3 (o_nil rfl)) ?_
  first | refine d_load rfl (o_load1 rfl rfl rfl sh3 rfl (o_nil rfl)) ?_ | refine d_load rfl (o_loadR1 rfl rfl sh3 rfl (o_nil rfl)) ?_
  refine d_plain (o_call rfl (ret40 hi b 31 (by omega) (by omega)) (.lrefl _) (o_nil rfl)) ?_
  refine d_plain (o_assign rfl (o_nil rfl)) ?_
  refine d_plain (o_assign rfl (o_nil rfl)) ?_
  refine d_nil ?_
  refine k_ret ?_
  refine ⟨.inr rfl, _, .cons _ _ _ _ (.tmp 2) (.cons _ _ _ _ (.tmp 3) .nil), ?_⟩
  exact .refl _

-- 32 saron/saronlaw03.sound params [27] pure True
noncomputable def b32 : Code := (Try.f32.body).getD .skip
theorem body32 : bodyOf Try.prog 32 = some (79, b32, [.tmp 2]) := by kernel_rfl
theorem pure32 : pureFn Try.prog 32 = true := by kernel_rfl
set_option maxHeartbeats 4000000 in
theorem ret32 (hi : Off is) {s : Shop} (hk : SOk s) : RetP Try.prog is orc 32 [s.u] (.bool true) := by
  refine ret_of body32 pure32 (hi 32 (by decide)) rfl rfl (dat_l1 (dat_shop s 5)) (.inl (.bool _ _)) ?_
  have w1 := hk.nt; have w3 := hk.nk
  have g9 : decide (checkR s.tools s.keys s.flo s.fhi = 0) = true := decide_eq_true (chk_ok hk)
  have g15 : (decide (1 ≤ ((trisU s.tools).length : Int)) && decide (((trisU s.tools).length : Int) ≤ 4)) = true := by have := hk.nt; simp; omega
  have g20 : (decide (-60 ≤ s.flo) && (decide (s.flo ≤ s.fhi) && decide (s.fhi ≤ 60))) = true := by have := hk.fine; simp; omega
  have g25 : decide (((trisU s.keys).length : Int) ≤ 6) = true := by have := hk.nk; simp; omega
  refine k_seq ?_
  refine k_region ?_   -- region 0 outright.go:40
  refine o_box rfl rfl ?_
  refine o_assign rfl ?_
  refine o_nil ?_
  refine k_seq ?_
  refine k_region ?_   -- region 1 outright.go:41
  first | refine o_loadN rfl rfl rfl sh27 rfl ?_ | refine o_loadRN rfl rfl sh27 rfl ?_
  refine o_call rfl (chk hi s) (.lrefl _) ?_
  refine o_eql rfl rfl rfl ?_
  refine o_move rfl ?_
  refine o_guard rfl rfl rfl rfl (fun _ => ?_) (fun h => absurd (h.symm.trans g9) (by decide))
  first | refine o_faddr rfl rfl fld27_0 ?_ | refine o_faddrR rfl rfl fld27_0 ?_
  refine o_guard rfl rfl rfl rfl (fun _ => ?_) (fun h => absurd (h.symm.trans g9) (by decide))
  first | refine o_load1 rfl rfl rfl sh22 rfl ?_ | refine o_loadR1 rfl rfl sh22 rfl ?_
  refine o_guard rfl rfl rfl rfl (fun _ => ?_) (fun h => absurd (h.symm.trans g9) (by decide))
  refine o_len rfl ty22 rfl rfl ?_
  refine o_guard rfl rfl rfl rfl (fun _ => ?_) (fun h => absurd (h.symm.trans g9) (by decide))
  refine o_call rfl (ret34 hi _ _ _) (.lrefl _) ?_
  refine o_pickT rfl rfl g9 ?_
  refine o_move rfl ?_
  refine o_guard rfl rfl rfl rfl (fun _ => ?_) (fun h => absurd (h.symm.trans g15) (by decide))
  first | refine o_faddr rfl rfl fld27_1 ?_ | refine o_faddrR rfl rfl fld27_1 ?_
  refine o_guard rfl rfl rfl rfl (fun _ => ?_) (fun h => absurd (h.symm.trans g15) (by decide))
  first | refine o_loadN rfl rfl rfl sh24 rfl ?_ | refine o_loadRN rfl rfl sh24 rfl ?_
  refine o_guard rfl rfl rfl rfl (fun _ => ?_) (fun h => absurd (h.symm.trans g15) (by decide))
  refine o_call rfl (ret54 hi _ _ _ _) (.lrefl _) ?_
  refine o_pickT rfl rfl g15 ?_
  refine o_move rfl ?_
  refine o_guard rfl rfl rfl rfl (fun _ => ?_) (fun h => absurd (h.symm.trans g20) (by decide))
  first | refine o_faddr rfl rfl fld27_2 ?_ | refine o_faddrR rfl rfl fld27_2 ?_
  refine o_guard rfl rfl rfl rfl (fun _ => ?_) (fun h => absurd (h.symm.trans g20) (by decide))
  first | refine o_load1 rfl rfl rfl sh25 rfl ?_ | refine o_loadR1 rfl rfl sh25 rfl ?_
  refine o_guard rfl rfl rfl rfl (fun _ => ?_) (fun h => absurd (h.symm.trans g20) (by decide))
  refine o_len rfl ty25 rfl rfl ?_
  refine o_guard rfl rfl rfl rfl (fun _ => ?_) (fun h => absurd (h.symm.trans g20) (by decide))
  refine o_leq rfl rfl rfl ?_
  refine o_pickT rfl rfl g20 ?_
  refine o_assign rfl ?_
  refine o_nil ?_
  refine k_seq ?_
  refine k_seq ?_
  refine k_region ?_   -- region 2 outright.go:42
  refine o_assign rfl ?_
  refine o_nil ?_
  refine k_block ?_
  -- LOOP 1
  refine k_loop (fun k st => ∃ n : Nat, k + n = s.tools.length ∧ st.st[0]? = some (.box s.cs) ∧ Holds st [(1, .box 0 0), (3, .bool true), (4, .int .i64 n)]) (fun k st hI => ?_) s.tools.length _ ?_
  · obtain ⟨n, hk0, hst, hs⟩ := hI
    rw [hs.eq]
    refine k_seq ?_
    refine k_seq ?_
    refine k_region ?_   -- region 3 outright.go:42
    refine o_move rfl ?_
    refine o_move rfl ?_
    refine o_guard rfl rfl rfl rfl (fun _ => ?_) (fun h => absurd (h.symm.trans rfl) (by decide))
    refine o_move rfl ?_
    refine o_guard rfl rfl rfl rfl (fun _ => ?_) (fun h => absurd (h.symm.trans rfl) (by decide))
    first | refine o_faddr rfl rfl fld27_0 ?_ | refine o_faddrR rfl rfl fld27_0 ?_
    refine o_guard rfl rfl rfl rfl (fun _ => ?_) (fun h => absurd (h.symm.trans rfl) (by decide))
    first | refine o_load1 rfl rfl rfl sh22 rfl ?_ | refine o_load1 rfl rfl (at_set _ _ _) sh22 rfl ?_ | refine o_load1 rfl rfl (at_new _ _) sh22 rfl ?_ | refine o_load1 rfl rfl (at_old2 hst) sh22 rfl ?_ | refine o_load1 rfl rfl (at_old hst) sh22 rfl ?_ | refine o_load1 rfl rfl hst sh22 rfl ?_ | refine o_loadR1 rfl rfl sh22 rfl ?_
    refine o_guard rfl rfl rfl rfl (fun _ => ?_) (fun h => absurd (h.symm.trans rfl) (by decide))
    refine o_len rfl ty22 rfl rfl ?_
    refine o_guard rfl rfl rfl rfl (fun _ => ?_) (fun h => absurd (h.symm.trans rfl) (by decide))
    refine o_lss rfl rfl rfl ?_
    refine o_pickT rfl rfl rfl ?_
    refine o_nil ?_
    refine k_cond rfl (fun h1 => ?_) (fun h1 => ?_)   -- slot 33
    · have h3' : n < s.tools.length := by
        have := of_decide_eq_true h1
        simp at this; omega
      obtain ⟨q, hq⟩ : ∃ q, s.tools[n]? = some q := ⟨s.tools[n], List.getElem?_eq_getElem h3'⟩
      have hm := hk.tools q (List.mem_of_getElem? hq)
      have g43 : (decide (-30 ≤ q.a) && (decide (q.a ≤ q.b) && decide (q.b ≤ 30))) = true := by simp; omega
      have g50 : (decide (1 ≤ q.c) && decide (q.c ≤ 10)) = true := by simp; omega
      refine k_skip ?_
      refine k_seq ?_
      refine k_block ?_
      refine k_region ?_   -- region 5 outright.go:43
      first | refine o_faddr rfl rfl fld27_0 ?_ | refine o_faddrR rfl rfl fld27_0 ?_
      first | refine o_load1 rfl rfl rfl sh22 rfl ?_ | refine o_load1 rfl rfl (at_set _ _ _) sh22 rfl ?_ | refine o_load1 rfl rfl (at_new _ _) sh22 rfl ?_ | refine o_load1 rfl rfl (at_old2 hst) sh22 rfl ?_ | refine o_load1 rfl rfl (at_old hst) sh22 rfl ?_ | refine o_load1 rfl rfl hst sh22 rfl ?_ | refine o_loadR1 rfl rfl sh22 rfl ?_
      refine o_move rfl ?_
      refine o_idx (u := q.u) rfl ty22 rfl rfl (Int.natCast_nonneg n) (by simp [hq]) cl52 ?_
      first | refine o_faddr rfl rfl fld52_0 ?_ | refine o_faddrR rfl rfl fld52_0 ?_
      first | refine o_loadN rfl rfl rfl sh24 rfl ?_ | refine o_loadN rfl rfl (at_set _ _ _) sh24 rfl ?_ | refine o_loadN rfl rfl (at_new _ _) sh24 rfl ?_ | refine o_loadN rfl rfl (at_old2 hst) sh24 rfl ?_ | refine o_loadN rfl rfl (at_old hst) sh24 rfl ?_ | refine o_loadN rfl rfl hst sh24 rfl ?_ | refine o_loadRN rfl rfl sh24 rfl ?_
      refine o_call rfl (ret54 hi _ _ _ _) (.lrefl _) ?_
      refine o_move rfl ?_
      refine o_guard rfl rfl rfl rfl (fun _ => ?_) (fun h => absurd (h.symm.trans g43) (by decide))
      first | refine o_faddr rfl rfl fld27_0 ?_ | refine o_faddrR rfl rfl fld27_0 ?_
      refine o_guard rfl rfl rfl rfl (fun _ => ?_) (fun h => absurd (h.symm.trans g43) (by decide))
      first | refine o_load1 rfl rfl rfl sh22 rfl ?_ | refine o_load1 rfl rfl (at_set _ _ _) sh22 rfl ?_ | refine o_load1 rfl rfl (at_new _ _) sh22 rfl ?_ | refine o_load1 rfl rfl (at_old2 hst) sh22 rfl ?_ | refine o_load1 rfl rfl (at_old hst) sh22 rfl ?_ | refine o_load1 rfl rfl hst sh22 rfl ?_ | refine o_loadR1 rfl rfl sh22 rfl ?_
      refine o_guard rfl rfl rfl rfl (fun _ => ?_) (fun h => absurd (h.symm.trans g43) (by decide))
      refine o_move rfl ?_
      refine o_guard rfl rfl rfl rfl (fun _ => ?_) (fun h => absurd (h.symm.trans g43) (by decide))
      refine o_idx (u := q.u) rfl ty22 rfl rfl (Int.natCast_nonneg n) (by simp [hq]) cl52 ?_
      refine o_guard rfl rfl rfl rfl (fun _ => ?_) (fun h => absurd (h.symm.trans g43) (by decide))
      first | refine o_faddr rfl rfl fld52_1 ?_ | refine o_faddrR rfl rfl fld52_1 ?_
      refine o_guard rfl rfl rfl rfl (fun _ => ?_) (fun h => absurd (h.symm.trans g43) (by decide))
      first | refine o_load1 rfl rfl rfl sh3 rfl ?_ | refine o_load1 rfl rfl (at_set _ _ _) sh3 rfl ?_ | refine o_load1 rfl rfl (at_new _ _) sh3 rfl ?_ | refine o_load1 rfl rfl (at_old2 hst) sh3 rfl ?_ | refine o_load1 rfl rfl (at_old hst) sh3 rfl ?_ | refine o_load1 rfl rfl hst sh3 rfl ?_ | refine o_loadR1 rfl rfl sh3 rfl ?_
      refine o_guard rfl rfl rfl rfl (fun _ => ?_) (fun h => absurd (h.symm.trans g43) (by decide))
      refine o_call rfl (ret34 hi _ _ _) (.lrefl _) ?_
      refine o_pickT rfl rfl g43 ?_
      refine o_assign rfl ?_
      refine o_nil ?_
      refine k_region ?_   -- region 4 outright.go:42
      refine o_move rfl ?_
      refine o_add rfl rfl rfl (by unfold I64; omega) ?_
      refine o_assign rfl ?_
      refine o_nil ?_
      exact ⟨k - 1, by omega, n + 1, by omega, (by first | exact hst | exact at_old2 hst), .cons rfl (.cons (congrArg U.bool g50) (.cons rfl (.nil rfl)))⟩
    · refine k_exit ?_
      refine k_seq ?_
      refine k_seq ?_
      refine k_region ?_   -- region 6 outright.go:45
      refine o_assign rfl ?_
      refine o_nil ?_
      refine k_block ?_
      -- LOOP 2
      refine k_loop (fun k st => ∃ n : Nat, k + n = s.keys.length ∧ st.st[0]? = some (.box s.cs) ∧ Holds st [(1, .box 0 0), (3, .bool true), (5, .int .i64 n)]) (fun k st hI => ?_) s.keys.length _ ?_
      · obtain ⟨n, hk0, hst, hs⟩ := hI
        rw [hs.eq]
        refine k_seq ?_
        refine k_seq ?_
        refine k_region ?_   -- region 7 outright.go:45
        refine o_move rfl ?_
        refine o_move rfl ?_
        refine o_guard rfl rfl rfl rfl (fun _ => ?_) (fun h => absurd (h.symm.trans rfl) (by decide))
        refine o_move rfl ?_
        refine o_guard rfl rfl rfl rfl (fun _ => ?_) (fun h => absurd (h.symm.trans rfl) (by decide))
        first | refine o_faddr rfl rfl fld27_2 ?_ | refine o_faddrR rfl rfl fld27_2 ?_
        refine o_guard rfl rfl rfl rfl (fun _ => ?_) (fun h => absurd (h.symm.trans rfl) (by decide))
        first | refine o_load1 rfl rfl rfl sh25 rfl ?_ | refine o_load1 rfl rfl (at_set _ _ _) sh25 rfl ?_ | refine o_load1 rfl rfl (at_new _ _) sh25 rfl ?_ | refine o_load1 rfl rfl (at_old2 hst) sh25 rfl ?_ | refine o_load1 rfl rfl (at_old hst) sh25 rfl ?_ | refine o_load1 rfl rfl hst sh25 rfl ?_ | refine o_loadR1 rfl rfl sh25 rfl ?_
        refine o_guard rfl rfl rfl rfl (fun _ => ?_) (fun h => absurd (h.symm.trans rfl) (by decide))
        refine o_len rfl ty25 rfl rfl ?_
        refine o_guard rfl rfl rfl rfl (fun _ => ?_) (fun h => absurd (h.symm.trans rfl) (by decide))
        refine o_lss rfl rfl rfl ?_
        refine o_pickT rfl rfl rfl ?_
        refine o_nil ?_
        refine k_cond rfl (fun h2 => ?_) (fun h2 => ?_)   -- slot 59
        · have h3' : n < s.keys.length := by
            have := of_decide_eq_true h2
            simp at this; omega
          obtain ⟨q, hq⟩ : ∃ q, s.keys[n]? = some q := ⟨s.keys[n], List.getElem?_eq_getElem h3'⟩
          have hm := hk.keys q (List.mem_of_getElem? hq)
          have g69 : (decide (-60 ≤ q.a) && (decide (q.a ≤ q.b) && decide (q.b ≤ 60))) = true := by simp; omega
          have g76 : (decide (0 ≤ q.c) && decide (q.c ≤ 30)) = true := by simp; omega
          refine k_skip ?_
          refine k_seq ?_
          refine k_block ?_
          refine k_region ?_   -- region 9 outright.go:46
          first | refine o_faddr rfl rfl fld27_2 ?_ | refine o_faddrR rfl rfl fld27_2 ?_
          first | refine o_load1 rfl rfl rfl sh25 rfl ?_ | refine o_load1 rfl rfl (at_set _ _ _) sh25 rfl ?_ | refine o_load1 rfl rfl (at_new _ _) sh25 rfl ?_ | refine o_load1 rfl rfl (at_old2 hst) sh25 rfl ?_ | refine o_load1 rfl rfl (at_old hst) sh25 rfl ?_ | refine o_load1 rfl rfl hst sh25 rfl ?_ | refine o_loadR1 rfl rfl sh25 rfl ?_
          refine o_move rfl ?_
          refine o_idx (u := q.u) rfl ty25 rfl rfl (Int.natCast_nonneg n) (by simp [hq]) cl64 ?_
          first | refine o_faddr rfl rfl fld64_0 ?_ | refine o_faddrR rfl rfl fld64_0 ?_
          first | refine o_loadN rfl rfl rfl sh24 rfl ?_ | refine o_loadN rfl rfl (at_set _ _ _) sh24 rfl ?_ | refine o_loadN rfl rfl (at_new _ _) sh24 rfl ?_ | refine o_loadN rfl rfl (at_old2 hst) sh24 rfl ?_ | refine o_loadN rfl rfl (at_old hst) sh24 rfl ?_ | refine o_loadN rfl rfl hst sh24 rfl ?_ | refine o_loadRN rfl rfl sh24 rfl ?_
          refine o_call rfl (ret54 hi _ _ _ _) (.lrefl _) ?_
          refine o_move rfl ?_
          refine o_guard rfl rfl rfl rfl (fun _ => ?_) (fun h => absurd (h.symm.trans g69) (by decide))
          first | refine o_faddr rfl rfl fld27_2 ?_ | refine o_faddrR rfl rfl fld27_2 ?_
          refine o_guard rfl rfl rfl rfl (fun _ => ?_) (fun h => absurd (h.symm.trans g69) (by decide))
          first | refine o_load1 rfl rfl rfl sh25 rfl ?_ | refine o_load1 rfl rfl (at_set _ _ _) sh25 rfl ?_ | refine o_load1 rfl rfl (at_new _ _) sh25 rfl ?_ | refine o_load1 rfl rfl (at_old2 hst) sh25 rfl ?_ | refine o_load1 rfl rfl (at_old hst) sh25 rfl ?_ | refine o_load1 rfl rfl hst sh25 rfl ?_ | refine o_loadR1 rfl rfl sh25 rfl ?_
          refine o_guard rfl rfl rfl rfl (fun _ => ?_) (fun h => absurd (h.symm.trans g69) (by decide))
          refine o_move rfl ?_
          refine o_guard rfl rfl rfl rfl (fun _ => ?_) (fun h => absurd (h.symm.trans g69) (by decide))
          refine o_idx (u := q.u) rfl ty25 rfl rfl (Int.natCast_nonneg n) (by simp [hq]) cl64 ?_
          refine o_guard rfl rfl rfl rfl (fun _ => ?_) (fun h => absurd (h.symm.trans g69) (by decide))
          first | refine o_faddr rfl rfl fld64_1 ?_ | refine o_faddrR rfl rfl fld64_1 ?_
          refine o_guard rfl rfl rfl rfl (fun _ => ?_) (fun h => absurd (h.symm.trans g69) (by decide))
          first | refine o_load1 rfl rfl rfl sh3 rfl ?_ | refine o_load1 rfl rfl (at_set _ _ _) sh3 rfl ?_ | refine o_load1 rfl rfl (at_new _ _) sh3 rfl ?_ | refine o_load1 rfl rfl (at_old2 hst) sh3 rfl ?_ | refine o_load1 rfl rfl (at_old hst) sh3 rfl ?_ | refine o_load1 rfl rfl hst sh3 rfl ?_ | refine o_loadR1 rfl rfl sh3 rfl ?_
          refine o_guard rfl rfl rfl rfl (fun _ => ?_) (fun h => absurd (h.symm.trans g69) (by decide))
          refine o_call rfl (ret34 hi _ _ _) (.lrefl _) ?_
          refine o_pickT rfl rfl g69 ?_
          refine o_assign rfl ?_
          refine o_nil ?_
          refine k_region ?_   -- region 8 outright.go:45
          refine o_move rfl ?_
          refine o_add rfl rfl rfl (by unfold I64; omega) ?_
          refine o_assign rfl ?_
          refine o_nil ?_
          exact ⟨k - 1, by omega, n + 1, by omega, (by first | exact hst | exact at_old2 hst), .cons rfl (.cons (congrArg U.bool g76) (.cons rfl (.nil rfl)))⟩
        · refine k_exit ?_
          refine k_seq ?_
          refine k_region ?_   -- region 10 outright.go:48
          refine o_move rfl ?_
          refine o_assign rfl ?_
          refine o_nil ?_
          refine k_ret ?_
          refine ⟨.inr rfl, _, .cons _ _ _ _ (.tmp 2) .nil, ?_⟩
          exact .refl _
      · exact ⟨0, rfl, hst, .cons rfl (.cons rfl (.cons rfl (.nil rfl)))⟩
  · exact ⟨0, rfl, rfl, .cons rfl (.cons (congrArg U.bool g25) (.cons rfl (.nil rfl)))⟩

set_option maxHeartbeats 4000000 in
theorem ret32n (hi : Off is) {s : Shop} (hv : checkR s.tools s.keys s.flo s.fhi ≠ 0) : RetP Try.prog is orc 32 [s.u] (.bool false) := by
  refine ret_of body32 pure32 (hi 32 (by decide)) rfl rfl (dat_l1 (dat_shop s 5)) (.inl (.bool _ _)) ?_
  have g9 : decide (checkR s.tools s.keys s.flo s.fhi = 0) = false := decide_eq_false hv
  refine k_seq ?_
  refine k_region ?_   -- region 0 outright.go:40
  refine o_box rfl rfl ?_
  refine o_assign rfl ?_
  refine o_nil ?_
  refine k_seq ?_
  refine k_region ?_   -- region 1 outright.go:41
  first | refine o_loadN rfl rfl rfl sh27 rfl ?_ | refine o_loadRN rfl rfl sh27 rfl ?_
  refine o_call rfl (chk hi s) (.lrefl _) ?_
  refine o_eql rfl rfl rfl ?_
  refine o_move rfl ?_
  refine o_guard rfl rfl rfl rfl (fun h => absurd (h.symm.trans g9) (by decide)) (fun _ => ?_)
  refine o_guard rfl rfl rfl rfl (fun h => absurd (h.symm.trans g9) (by decide)) (fun _ => ?_)
  refine o_guard rfl rfl rfl rfl (fun h => absurd (h.symm.trans g9) (by decide)) (fun _ => ?_)
  refine o_guard rfl rfl rfl rfl (fun h => absurd (h.symm.trans g9) (by decide)) (fun _ => ?_)
  refine o_pickF rfl rfl g9 ?_
  refine o_move rfl ?_
  refine o_guard rfl rfl rfl rfl (fun h => by cases h) (fun _ => ?_)
  refine o_guard rfl rfl rfl rfl (fun h => by cases h) (fun _ => ?_)
  refine o_guard rfl rfl rfl rfl (fun h => by cases h) (fun _ => ?_)
  refine o_pickF rfl rfl rfl ?_
  refine o_move rfl ?_
  refine o_guard rfl rfl rfl rfl (fun h => by cases h) (fun _ => ?_)
  refine o_guard rfl rfl rfl rfl (fun h => by cases h) (fun _ => ?_)
  refine o_guard rfl rfl rfl rfl (fun h => by cases h) (fun _ => ?_)
  refine o_guard rfl rfl rfl rfl (fun h => by cases h) (fun _ => ?_)
  refine o_pickF rfl rfl rfl ?_
  refine o_assign rfl ?_
  refine o_nil ?_
  refine k_seq ?_
  refine k_seq ?_
  refine k_region ?_   -- region 2 outright.go:42
  refine o_assign rfl ?_
  refine o_nil ?_
  refine k_block ?_
  -- LOOP 1
  refine k_loop (fun k st => st.st[0]? = some (.box s.cs) ∧ Holds st [(1, .box 0 0), (3, .bool false), (4, .int .i64 0)]) (fun k st hI => ?_) 0 _ ?_
  · obtain ⟨hst, hs⟩ := hI
    rw [hs.eq]
    refine k_seq ?_
    refine k_seq ?_
    refine k_region ?_   -- region 3 outright.go:42
    refine o_move rfl ?_
    refine o_move rfl ?_
    refine o_guard rfl rfl rfl rfl (fun h => absurd (h.symm.trans rfl) (by decide)) (fun _ => ?_)
    refine o_guard rfl rfl rfl rfl (fun h => absurd (h.symm.trans rfl) (by decide)) (fun _ => ?_)
    refine o_guard rfl rfl rfl rfl (fun h => absurd (h.symm.trans rfl) (by decide)) (fun _ => ?_)
    refine o_guard rfl rfl rfl rfl (fun h => absurd (h.symm.trans rfl) (by decide)) (fun _ => ?_)
    refine o_guard rfl rfl rfl rfl (fun h => absurd (h.symm.trans rfl) (by decide)) (fun _ => ?_)
    refine o_pickF rfl rfl rfl ?_
    refine o_nil ?_
    refine k_cond rfl (fun h => by cases h) (fun _ => ?_)
    refine k_exit ?_
    refine k_seq ?_
    refine k_seq ?_
    refine k_region ?_   -- region 6 outright.go:45
    refine o_assign rfl ?_
    refine o_nil ?_
    refine k_block ?_
    -- LOOP 2
    refine k_loop (fun k st => st.st[0]? = some (.box s.cs) ∧ Holds st [(1, .box 0 0), (3, .bool false), (5, .int .i64 0)]) (fun k st hI => ?_) 0 _ ?_
    · obtain ⟨hst, hs⟩ := hI
      rw [hs.eq]
      refine k_seq ?_
      refine k_seq ?_
      refine k_region ?_   -- region 7 outright.go:45
      refine o_move rfl ?_
      refine o_move rfl ?_
      refine o_guard rfl rfl rfl rfl (fun h => absurd (h.symm.trans rfl) (by decide)) (fun _ => ?_)
      refine o_guard rfl rfl rfl rfl (fun h => absurd (h.symm.trans rfl) (by decide)) (fun _ => ?_)
      refine o_guard rfl rfl rfl rfl (fun h => absurd (h.symm.trans rfl) (by decide)) (fun _ => ?_)
      refine o_guard rfl rfl rfl rfl (fun h => absurd (h.symm.trans rfl) (by decide)) (fun _ => ?_)
      refine o_guard rfl rfl rfl rfl (fun h => absurd (h.symm.trans rfl) (by decide)) (fun _ => ?_)
      refine o_pickF rfl rfl rfl ?_
      refine o_nil ?_
      refine k_cond rfl (fun h => by cases h) (fun _ => ?_)
      refine k_exit ?_
      refine k_seq ?_
      refine k_region ?_   -- region 10 outright.go:48
      refine o_move rfl ?_
      refine o_assign rfl ?_
      refine o_nil ?_
      refine k_ret ?_
      refine ⟨.inr rfl, _, .cons _ _ _ _ (.tmp 2) .nil, ?_⟩
      exact .refl _
    · exact ⟨hst, .cons rfl (.cons rfl (.cons rfl (.nil rfl)))⟩
  · exact ⟨rfl, .cons rfl (.cons rfl (.cons rfl (.nil rfl)))⟩

theorem ret14a (hi : Off is) {s : Shop} (hk : SOk s) {off metal c1 c2 : Int} (ho : offB off = true) (hm : metB metal = true) (hc : cho s true off metal = (c1, c2)) (h31 : c2 ≠ 31) : RetP Try.prog is orc 14 [s.u, .int .i64 off, .int .i64 metal] (.tup [.int .i64 c1, .int .i64 c2, .int .i64 0]) := by
  have := ret14 (orc := orc) hi hk (by have := chk (orc := orc) hi s; rwa [chk_ok hk] at this) ho hm
  rw [hc] at this
  rwa [show nextU (c1, c2) = .tup [.int .i64 c1, .int .i64 c2, .int .i64 0] from if_neg h31] at this
theorem ret14z (hi : Off is) {s : Shop} (hk : SOk s) {off metal : Int} (ho : offB off = true) (hm : metB metal = true) (hc : (cho s true off metal).2 = 31) : RetP Try.prog is orc 14 [s.u, .int .i64 off, .int .i64 metal] (.tup [.int .i64 0, .int .i64 0, .int .i64 4]) := by
  have := ret14 (orc := orc) hi hk (by have := chk (orc := orc) hi s; rwa [chk_ok hk] at this) ho hm
  rwa [show nextU (cho s true off metal) = .tup [.int .i64 0, .int .i64 0, .int .i64 4] from if_pos hc] at this
theorem st_off (a : Int) : offB (a % 121 - 60) = true := by
  have p1 := Int.emod_nonneg a (show (121 : Int) ≠ 0 by omega)
  have p2 := Int.emod_lt_of_pos a (show (0 : Int) < 121 by omega)
  unfold offB; simp; omega
theorem st_met (b : Int) : metB (b % 31) = true := by
  have p1 := Int.emod_nonneg b (show (31 : Int) ≠ 0 by omega)
  have p2 := Int.emod_lt_of_pos b (show (0 : Int) < 31 by omega)
  unfold metB; simp; omega

-- 6 saron/saronlaw03.RaspSure params [27, 28, 38] pure True
noncomputable def b6 : Code := (Try.f6.body).getD .skip
theorem body6 : bodyOf Try.prog 6 = some (115, b6, [.tmp 6]) := by kernel_rfl
theorem pure6 : pureFn Try.prog 6 = true := by kernel_rfl
set_option maxHeartbeats 4000000 in
theorem ret6n (hi : Off is) {s : Shop} (hv : checkR s.tools s.keys s.flo s.fhi ≠ 0) (a b : Int) (l : List Int) (r20 : RetP Try.prog is orc 20 [] (.bool true)) : RetP Try.prog is orc 6 [s.u, .agg [.int .i64 a, .int .i64 b], .lst .ro 1 (intsU l)] (.bool true) := by
  refine ret_of body6 pure6 (hi 6 (by decide)) rfl rfl (dat_l3 (dat_shop s 5) (dat_span _ _ _) (dat_ints 6 .ro (fun h => by cases h) 1 l)) (.inl (.bool _ _)) ?_
  refine k_seq ?_
  refine k_region ?_   -- region 0 outright.go:57
  refine o_box rfl rfl ?_
  refine o_box rfl rfl ?_
  refine o_assign rfl ?_
  refine o_nil ?_
  refine k_seq ?_
  refine k_seq ?_
  refine k_region ?_   -- region 1 outright.go:58
  first | refine o_loadN rfl rfl rfl sh27 rfl ?_ | refine o_loadRN rfl rfl sh27 rfl ?_
  refine o_call rfl (ret32n hi hv) (.lrefl _) ?_
  refine o_not rfl rfl ?_
  refine o_nil ?_
  refine k_cond rfl (fun _ => ?_) (fun h => absurd (h.symm.trans rfl) (by decide))
  refine k_seq ?_
  refine k_region ?_   -- region 2 outright.go:59
  refine o_call rfl (r20) (.lrefl _) ?_
  refine o_assign rfl ?_
  refine o_nil ?_
  refine k_ret ?_
  refine ⟨.inr rfl, _, .cons _ _ _ _ (.tmp 6) .nil, ?_⟩
  exact .refl _

theorem sh28 : shOf Try.prog 28 = .many 2 := by kernel_rfl
set_option maxHeartbeats 4000000 in
theorem ret6z (hi : Off is) {s : Shop} (hk : SOk s) (a b : Int) (l : List Int) (r20 : RetP Try.prog is orc 20 [] (.bool true)) (hn : (cho s true (a % 121 - 60) (b % 31)).2 = 31) : RetP Try.prog is orc 6 [s.u, .agg [.int .i64 a, .int .i64 b], .lst .ro 1 (intsU l)] (.bool true) := by
  refine ret_of body6 pure6 (hi 6 (by decide)) rfl rfl (dat_l3 (dat_shop s 5) (dat_span _ _ _) (dat_ints 6 .ro (fun h => by cases h) 1 l)) (.inl (.bool _ _)) ?_
  refine k_seq ?_
  refine k_region ?_   -- region 0 outright.go:57
  refine o_box rfl rfl ?_
  refine o_box rfl rfl ?_
  refine o_assign rfl ?_
  refine o_nil ?_
  refine k_seq ?_
  refine k_seq ?_
  refine k_region ?_   -- region 1 outright.go:58
  first | refine o_loadN rfl rfl rfl sh27 rfl ?_ | refine o_loadRN rfl rfl sh27 rfl ?_
  refine o_call rfl (ret32 hi hk) (.lrefl _) ?_
  refine o_not rfl rfl ?_
  refine o_nil ?_
  refine k_cond rfl (fun h => absurd (h.symm.trans rfl) (by decide)) (fun _ => ?_)
  refine k_skip ?_
  refine k_seq ?_
  refine k_region ?_   -- region 3 outright.go:61
  first | refine o_loadN rfl rfl rfl sh28 rfl ?_ | refine o_loadRN rfl rfl sh28 rfl ?_
  refine o_call rfl (ret33 hi a b) (.lrefl _) ?_
  refine o_move rfl ?_
  refine o_extract rfl rfl rfl ?_
  refine o_extract rfl rfl rfl ?_
  refine o_assign rfl ?_
  refine o_assign rfl ?_
  refine o_nil ?_
  refine k_seq ?_
  refine k_region ?_   -- region 4 outright.go:62
  first | refine o_loadN rfl rfl rfl sh27 rfl ?_ | refine o_loadRN rfl rfl sh27 rfl ?_
  refine o_move rfl ?_
  refine o_move rfl ?_
  refine o_call rfl (ret14z hi hk (st_off a) (st_met b) hn) (.lrefl _) ?_
  refine o_move rfl ?_
  refine o_extract rfl rfl rfl ?_
  refine o_extract rfl rfl rfl ?_
  refine o_extract rfl rfl rfl ?_
  refine o_assign rfl ?_
  refine o_assign rfl ?_
  refine o_assign rfl ?_
  refine o_nil ?_
  refine k_seq ?_
  refine k_seq ?_
  refine k_region ?_   -- region 5 outright.go:63
  refine o_move rfl ?_
  refine o_neq rfl rfl rfl ?_
  refine o_nil ?_
  refine k_cond rfl (fun _ => ?_) (fun h => absurd (h.symm.trans (decide_eq_true (by decide : (4 : Int) ≠ 0))) (by decide))
  refine k_seq ?_
  refine k_region ?_   -- region 6 outright.go:64
  refine o_move rfl ?_
  refine o_eql rfl rfl rfl ?_
  refine o_move rfl ?_
  refine o_guard rfl rfl rfl rfl (fun _ => ?_) (fun h => absurd (h.symm.trans (decide_eq_true (rfl : (4 : Int) = 4))) (by decide))
  refine o_move rfl ?_
  refine o_guard rfl rfl rfl rfl (fun _ => ?_) (fun h => absurd (h.symm.trans (decide_eq_true (rfl : (4 : Int) = 4))) (by decide))
  refine o_eql rfl rfl rfl ?_
  refine o_pickT rfl rfl (decide_eq_true (rfl : (4 : Int) = 4)) ?_
  refine o_move rfl ?_
  refine o_guard rfl rfl rfl rfl (fun _ => ?_) (fun h => absurd (h.symm.trans (decide_eq_true (rfl : (0 : Int) = 0))) (by decide))
  refine o_call rfl (r20) (.lrefl _) ?_
  refine o_pickT rfl rfl (decide_eq_true (rfl : (0 : Int) = 0)) ?_
  refine o_assign rfl ?_
  refine o_nil ?_
  refine k_ret ?_
  refine ⟨.inr rfl, _, .cons _ _ _ _ (.tmp 6) .nil, ?_⟩
  exact .refl _

theorem ty4 : tyOf Try.prog 4 = .bool := by kernel_rfl

def Run6 (s : Shop) (off metal left : Int) (i : Nat) : Prop := offB off = true ∧ metB metal = true ∧ (cho s true off metal).2 ≠ 31 ∧ (cho s true off metal).2 ≤ left ∧ (i : Int) + metal ≤ 30
set_option maxHeartbeats 4000000 in
theorem ret6a (hi : Off is) {s : Shop} (hk : SOk s) (a b : Int) (l : List Int) (r20 : RetP Try.prog is orc 20 [] (.bool true)) (hn0 : (cho s true (a % 121 - 60) (b % 31)).2 ≠ 31) : RetP Try.prog is orc 6 [s.u, .agg [.int .i64 a, .int .i64 b], .lst .ro 1 (intsU l)] (.bool true) := by
  refine ret_of body6 pure6 (hi 6 (by decide)) rfl rfl (dat_l3 (dat_shop s 5) (dat_span _ _ _) (dat_ints 6 .ro (fun h => by cases h) 1 l)) (.inl (.bool _ _)) ?_
  obtain ⟨c10, c20, hc0⟩ : ∃ c1 c2, cho s true (a % 121 - 60) (b % 31) = (c1, c2) := ⟨_, _, rfl⟩
  rw [hc0] at hn0
  have p1 := Int.emod_nonneg b (show (31 : Int) ≠ 0 by omega)
  have p2 := Int.emod_lt_of_pos b (show (0 : Int) < 31 by omega)
  refine k_seq ?_
  refine k_region ?_   -- region 0 outright.go:57
  refine o_box rfl rfl ?_
  refine o_box rfl rfl ?_
  refine o_assign rfl ?_
  refine o_nil ?_
  refine k_seq ?_
  refine k_seq ?_
  refine k_region ?_   -- region 1 outright.go:58
  first | refine o_loadN rfl rfl rfl sh27 rfl ?_ | refine o_loadRN rfl rfl sh27 rfl ?_
  refine o_call rfl (ret32 hi hk) (.lrefl _) ?_
  refine o_not rfl rfl ?_
  refine o_nil ?_
  refine k_cond rfl (fun h => absurd (h.symm.trans rfl) (by decide)) (fun _ => ?_)
  refine k_skip ?_
  refine k_seq ?_
  refine k_region ?_   -- region 3 outright.go:61
  first | refine o_loadN rfl rfl rfl sh28 rfl ?_ | refine o_loadRN rfl rfl sh28 rfl ?_
  refine o_call rfl (ret33 hi a b) (.lrefl _) ?_
  refine o_move rfl ?_
  refine o_extract rfl rfl rfl ?_
  refine o_extract rfl rfl rfl ?_
  refine o_assign rfl ?_
  refine o_assign rfl ?_
  refine o_nil ?_
  refine k_seq ?_
  refine k_region ?_   -- region 4 outright.go:62
  first | refine o_loadN rfl rfl rfl sh27 rfl ?_ | refine o_loadRN rfl rfl sh27 rfl ?_
  refine o_move rfl ?_
  refine o_move rfl ?_
  refine o_call rfl (ret14a hi hk (st_off a) (st_met b) hc0 hn0) (.lrefl _) ?_
  refine o_move rfl ?_
  refine o_extract rfl rfl rfl ?_
  refine o_extract rfl rfl rfl ?_
  refine o_extract rfl rfl rfl ?_
  refine o_assign rfl ?_
  refine o_assign rfl ?_
  refine o_assign rfl ?_
  refine o_nil ?_
  refine k_seq ?_
  refine k_seq ?_
  refine k_region ?_   -- region 5 outright.go:63
  refine o_move rfl ?_
  refine o_neq rfl rfl rfl ?_
  refine o_nil ?_
  refine k_cond rfl (fun h => absurd (h.symm.trans (decide_eq_false (fun h => h rfl))) (by decide)) (fun _ => ?_)
  refine k_skip ?_
  refine k_seq ?_
  refine k_region ?_   -- region 7 outright.go:66
  refine o_assign rfl ?_
  refine o_nil ?_
  refine k_block ?_
  -- LOOP 1
  refine k_loop (fun k st => ∃ (off metal left : Int) (i : Nat) (e : List SB), (k : Int) = metal ∧ Run6 s off metal left i ∧ st.st = [.box s.cs, .box [.int .i64 a, .int .i64 b]] ++ e ∧ Holds st [(2, .lst .ro 1 (intsU l)), (3, .box 0 0), (7, .int .i64 off), (8, .int .i64 metal), (10, .int .i64 left), (12, .int .i64 i)]) (fun k st hI => ?_) (b % 31).toNat _ ?_
  · obtain ⟨off, metal, left, i, e, hkm, hR, hst, hs⟩ := hI
    obtain ⟨ho, hm, hn, hl, hi30⟩ := hR
    have hm' : 0 ≤ metal ∧ metal ≤ 30 := by unfold metB at hm; simpa using hm
    have ho' : -60 ≤ off ∧ off ≤ 60 := by unfold offB at ho; simpa using ho
    obtain ⟨c1, c2, hc⟩ : ∃ c1 c2, cho s true off metal = (c1, c2) := ⟨_, _, rfl⟩
    rw [hc] at hn hl
    have hcb := cho_b s true off metal
    rw [hc] at hcb
    unfold CB at hcb
    have hcb' : 0 ≤ c2 ∧ c2 ≤ 31 := ⟨hcb.1, hcb.2.1⟩
    have hl' : c2 ≤ left := hl
    have hn' : c2 ≠ 31 := hn
    have hfine : fineB s off = true → c1 = -1 ∧ c2 = 0 := fun h => by
      have := cho_fine (w := true) hk hm'.1 h
      rw [hc] at this; cases this; exact ⟨rfl, rfl⟩
    have htool : fineB s off = false → ∃ (j : Nat) (t : Tri), s.tools[j]? = some t ∧ c1 = j ∧ c2 = hitT s off metal t + 1 ∧ spoilT s off metal t = false := fun h => by
      obtain ⟨j, t, h1, h2, h3, _⟩ := cho_tool hk hm'.1 h (by rw [hc]; exact hn)
      rw [hc] at h2; cases h2; exact ⟨j, t, h1, rfl, rfl, h3⟩
    have g63 : (!(decide (0 ≤ c2) && decide (c2 ≤ left))) = false := by
      have : 0 ≤ c2 := hcb.1
      have : c2 ≤ left := hl
      simp; omega
    have hx : decide (c1 = -1) = fineB s off ∧ decide (c2 = 0) = fineB s off := by
      cases hf : fineB s off with
      | true => obtain ⟨rfl, rfl⟩ := hfine hf; exact ⟨rfl, rfl⟩
      | false =>
        obtain ⟨j, t, _, rfl, rfl, _⟩ := htool hf
        have := hit_b (s := s) (off := off) (metal := metal) (t := t)
        exact ⟨decide_eq_false (by omega), decide_eq_false (by omega)⟩
    have g72 : decide (decide (c1 = -1) ≠ (decide (s.flo ≤ off) && decide (off ≤ s.fhi))) = false := by rw [hx.1]; exact decide_eq_false (fun h => h rfl)
    have g78 : decide (decide (c2 = 0) ≠ decide (c1 = -1)) = false := by rw [hx.1, hx.2]; exact decide_eq_false (fun h => h rfl)
    generalize hY : [SB.box s.cs, SB.box [.int .i64 a, .int .i64 b]] ++ e = Y at hst
    have hY0 : Y[0]? = some (.box s.cs) := by rw [← hY]; rfl
    refine k_gen _ _ hs hst fun fr => ?_
    refine k_seq ?_
    refine k_block ?_
    refine k_seq ?_
    refine k_region ?_   -- region 9 outright.go:67
    refine o_loadN rfl rfl hY0 sh27 rfl ?_
    refine o_move rfl ?_
    refine o_move rfl ?_
    refine o_call rfl (ret14a hi hk ho hm hc hn) (.lrefl _) ?_
    refine o_move rfl ?_
    refine o_extract rfl rfl rfl ?_
    refine o_extract rfl rfl rfl ?_
    refine o_extract rfl rfl rfl ?_
    refine o_assign rfl ?_
    refine o_assign rfl ?_
    refine o_assign rfl ?_
    refine o_nil ?_
    refine k_seq ?_
    refine k_seq ?_
    refine k_region ?_   -- region 10 outright.go:68
    refine o_move rfl ?_
    refine o_neq rfl rfl rfl ?_
    refine o_move rfl ?_
    refine o_guard rfl rfl rfl rfl (fun _ => ?_) (fun h => absurd (h.symm.trans (decide_eq_false (fun h => h rfl))) (by decide))
    refine o_move rfl ?_
    refine o_guard rfl rfl rfl rfl (fun _ => ?_) (fun h => absurd (h.symm.trans (decide_eq_false (fun h => h rfl))) (by decide))
    refine o_move rfl ?_
    refine o_guard rfl rfl rfl rfl (fun _ => ?_) (fun h => absurd (h.symm.trans (decide_eq_false (fun h => h rfl))) (by decide))
    refine o_call rfl (ret34 hi _ _ _) (.lrefl _) ?_
    refine o_guard rfl rfl rfl rfl (fun _ => ?_) (fun h => absurd (h.symm.trans (decide_eq_false (fun h => h rfl))) (by decide))
    refine o_not rfl rfl ?_
    refine o_pickF rfl rfl (decide_eq_false (fun h => h rfl)) ?_
    refine o_move rfl ?_
    refine o_guard rfl rfl rfl rfl (fun _ => ?_) (fun h => absurd (h.symm.trans g63) (by decide))
    refine o_move rfl ?_
    refine o_guard rfl rfl rfl rfl (fun _ => ?_) (fun h => absurd (h.symm.trans g63) (by decide))
    refine o_eql rfl rfl rfl ?_
    refine o_guard rfl rfl rfl rfl (fun _ => ?_) (fun h => absurd (h.symm.trans g63) (by decide))
    first | refine o_faddr rfl rfl fld27_1 ?_ | refine o_faddrR rfl rfl fld27_1 ?_
    refine o_guard rfl rfl rfl rfl (fun _ => ?_) (fun h => absurd (h.symm.trans g63) (by decide))
    refine o_loadN rfl rfl (cs := s.cs) hY0 sh24 rfl ?_
    refine o_guard rfl rfl rfl rfl (fun _ => ?_) (fun h => absurd (h.symm.trans g63) (by decide))
    refine o_move rfl ?_
    refine o_guard rfl rfl rfl rfl (fun _ => ?_) (fun h => absurd (h.symm.trans g63) (by decide))
    refine o_call rfl (ret35 hi _ _ _) (.lrefl _) ?_
    refine o_guard rfl rfl rfl rfl (fun _ => ?_) (fun h => absurd (h.symm.trans g63) (by decide))
    refine o_neqB rfl ty4 rfl rfl ?_
    refine o_pickF rfl rfl g63 ?_
    refine o_move rfl ?_
    refine o_guard rfl rfl rfl rfl (fun _ => ?_) (fun h => absurd (h.symm.trans g72) (by decide))
    refine o_move rfl ?_
    refine o_guard rfl rfl rfl rfl (fun _ => ?_) (fun h => absurd (h.symm.trans g72) (by decide))
    refine o_eql rfl rfl rfl ?_
    refine o_guard rfl rfl rfl rfl (fun _ => ?_) (fun h => absurd (h.symm.trans g72) (by decide))
    refine o_move rfl ?_
    refine o_guard rfl rfl rfl rfl (fun _ => ?_) (fun h => absurd (h.symm.trans g72) (by decide))
    refine o_eql rfl rfl rfl ?_
    refine o_guard rfl rfl rfl rfl (fun _ => ?_) (fun h => absurd (h.symm.trans g72) (by decide))
    refine o_neqB rfl ty4 rfl rfl ?_
    refine o_pickF rfl rfl g72 ?_
    refine o_nil ?_
    refine k_cond rfl (fun h => absurd (h.symm.trans g78) (by decide)) (fun _ => ?_)
    refine k_skip ?_
    refine k_seq ?_
    refine k_seq ?_
    refine k_region ?_   -- region 12 outright.go:71
    refine o_move rfl ?_
    refine o_eql rfl rfl rfl ?_
    refine o_nil ?_
    refine k_cond rfl (fun h1 => ?_) (fun h1 => ?_)   -- slot 80
    · refine k_seq ?_
      refine k_region ?_   -- region 13 outright.go:72
      refine o_call rfl (r20) (.lrefl _) ?_
      refine o_assign rfl ?_
      refine o_nil ?_
      refine k_ret ?_
      refine ⟨.inr rfl, _, .cons _ _ _ _ (.tmp 6) .nil, ?_⟩
      exact .refl _
    · have hf : fineB s off = false := by rw [← hx.1]; exact h1
      obtain ⟨j, t, ht, rfl, hc2, hsp⟩ := htool hf
      have htm := List.mem_of_getElem? ht
      have hb := hk.tools t htm
      have hjl : j < s.tools.length := by
        rcases Nat.lt_or_ge j s.tools.length with h | h
        · exact h
        · rw [List.getElem?_eq_none h] at ht; cases ht
      have hnt := hk.nt
      have hlen : (trisU s.tools).length = s.tools.length := List.length_map ..
      have g88 : (!(decide ((0 : Int) ≤ j) && decide ((j : Int) ≤ ((trisU s.tools).length : Int) - 1))) = false := by simp; omega
      have hd := draw_b (nthI l i) hb.2.1
      obtain ⟨ha1, ha2, ha3, ha4⟩ := after_ok hk htm hsp hd.1 hd.2
      have ha3' : -60 ≤ off + drawI t.a t.b (nthI l i) ∧ off + drawI t.a t.b (nthI l i) ≤ 60 := by have h := ha3; unfold offB at h; simpa using h
      have g110 : decide (metal - t.c < 0) = false := decide_eq_false (by omega)
      have g114 : (!(decide (-60 ≤ off + drawI t.a t.b (nthI l i)) && decide (off + drawI t.a t.b (nthI l i) ≤ 60))) = false := by simp; omega
      refine k_skip ?_
      refine k_seq ?_
      refine k_seq ?_
      refine k_region ?_   -- region 14 outright.go:74
      refine o_move rfl ?_
      first | refine o_faddr rfl rfl fld27_0 ?_ | refine o_faddrR rfl rfl fld27_0 ?_
      refine o_load1 rfl rfl (cs := s.cs) hY0 sh22 rfl ?_
      refine o_len rfl ty22 rfl rfl ?_
      refine o_sub rfl rfl rfl (by unfold I64; omega) ?_
      refine o_call rfl (ret34 hi _ _ _) (.lrefl _) ?_
      refine o_not rfl rfl ?_
      refine o_nil ?_
      refine k_cond rfl (fun h => absurd (h.symm.trans g88) (by decide)) (fun _ => ?_)
      refine k_skip ?_
      refine k_seq ?_
      refine k_region ?_   -- region 16 outright.go:77
      first | refine o_faddr rfl rfl fld27_0 ?_ | refine o_faddrR rfl rfl fld27_0 ?_
      refine o_load1 rfl rfl (cs := s.cs) hY0 sh22 rfl ?_
      refine o_move rfl ?_
      refine o_idx (u := t.u) rfl ty22 rfl rfl (Int.natCast_nonneg j) (by simp [ht]) cl52 ?_
      first | refine o_loadRN rfl rfl sh52 rfl ?_
      refine o_alloc rfl ze52 ?_
      refine o_storeN rfl (at_new _ _) sh52 rfl rfl rfl rfl rfl ?_
      refine o_nil ?_
      refine k_gen [(2, .lst .ro 1 (intsU l)), (3, .box 0 0), (7, .int .i64 off), (8, .int .i64 metal), (12, .int .i64 i), (14, .int .i64 c2), (16, .box Y.length 0)] ([SB.box s.cs, SB.box [.int .i64 a, .int .i64 b]] ++ (e ++ [.box [.int .i64 t.a, .int .i64 t.b, .int .i64 t.c]])) (.cons rfl (.cons rfl (.cons rfl (.cons rfl (.cons rfl (.cons rfl (.cons rfl (.nil rfl)))))))) (by show (Y ++ [SB.box _]).set Y.length (SB.box _) = _; rw [set_end, ← hY, List.append_assoc]; rfl) fun fr => ?_
      have hYt : ([SB.box s.cs, SB.box [.int .i64 a, .int .i64 b]] ++ (e ++ [SB.box [.int .i64 t.a, .int .i64 t.b, .int .i64 t.c]]))[Y.length]? = some (SB.box [.int .i64 t.a, .int .i64 t.b, .int .i64 t.c]) := by
        rw [← List.append_assoc, hY]; exact at_new _ _
      refine k_seq ?_
      refine k_draw [.plain, .plain, .read true, .plain, .plain, .read false, .read false, .plain, .plain, .plain, .read true, .plain, .plain, .plain, .plain, .plain, .plain] (by kernel_rfl) (by kernel_rfl) (by kernel_rfl) ?_   -- region 17
      refine d_plain (o_move rfl (o_nil rfl)) ?_
      first | refine d_plain (o_faddr rfl rfl fld52_0 (o_nil rfl)) ?_ | refine d_plain (o_faddrR rfl rfl fld52_0 (o_nil rfl)) ?_
      refine d_load rfl (o_loadN rfl rfl hYt sh24 rfl (o_nil rfl)) ?_
      refine d_plain (o_move rfl (o_nil rfl)) ?_
      refine d_plain (o_move rfl (o_nil rfl)) ?_
      refine d_callR rfl (ret37 hi l i) (.int _ _) (.lrefl _) ?_
      refine d_callR rfl (ret36 hi t.a t.b (nthI l i) (by omega)) (.int _ _) (.lrefl _) ?_
      refine d_plain (o_add rfl rfl rfl (by unfold I64; omega) (o_nil rfl)) ?_
      refine d_plain (o_move rfl (o_nil rfl)) ?_
      first | refine d_plain (o_faddr rfl rfl fld52_1 (o_nil rfl)) ?_ | refine d_plain (o_faddrR rfl rfl fld52_1 (o_nil rfl)) ?_
      refine d_load rfl (o_load1 rfl rfl hYt sh3 rfl (o_nil rfl)) ?_
      refine d_plain (o_sub rfl rfl rfl (by unfold I64; omega) (o_nil rfl)) ?_
      refine d_plain (o_move rfl (o_nil rfl)) ?_
      refine d_plain (o_sub rfl rfl rfl (by unfold I64; omega) (o_nil rfl)) ?_
      refine d_plain (o_assign rfl (o_nil rfl)) ?_
      refine d_plain (o_assign rfl (o_nil rfl)) ?_
      refine d_plain (o_assign rfl (o_nil rfl)) ?_
      refine d_nil ?_
      refine k_seq ?_
      refine k_region ?_   -- region 18 outright.go:79
      refine o_move rfl ?_
      refine o_lss rfl rfl rfl ?_
      refine o_move rfl ?_
      refine o_guard rfl rfl rfl rfl (fun _ => ?_) (fun h => absurd (h.symm.trans g110) (by decide))
      refine o_move rfl ?_
      refine o_guard rfl rfl rfl rfl (fun _ => ?_) (fun h => absurd (h.symm.trans g110) (by decide))
      refine o_call rfl (ret34 hi _ _ _) (.lrefl _) ?_
      refine o_guard rfl rfl rfl rfl (fun _ => ?_) (fun h => absurd (h.symm.trans g110) (by decide))
      refine o_not rfl rfl ?_
      refine o_pickF rfl rfl g110 ?_
      refine o_nil ?_
      refine k_cond rfl (fun h => absurd (h.symm.trans g114) (by decide)) (fun _ => ?_)
      refine k_skip ?_
      refine k_region ?_   -- region 8 outright.go:66
      refine o_move rfl ?_
      refine o_add rfl rfl rfl (by unfold I64; omega) ?_
      refine o_assign rfl ?_
      refine o_nil ?_
      refine ⟨(metal - t.c).toNat, by omega, off + drawI t.a t.b (nthI l i), metal - t.c, c2 - 1, i + 1, e ++ [.box [.int .i64 t.a, .int .i64 t.b, .int .i64 t.c]], by omega, ⟨ha3, by unfold metB; simp; omega, ha2, by omega, by omega⟩, rfl, .cons rfl (.cons rfl (.cons rfl (.cons rfl (.cons rfl (.cons rfl (.nil rfl))))))⟩
  · exact ⟨a % 121 - 60, b % 31, c20, 0, [], by omega, ⟨st_off a, st_met b, by rw [hc0]; exact hn0, by rw [hc0]; exact Int.le_refl _, by omega⟩, rfl, .cons rfl (.cons rfl (.cons rfl (.cons rfl (.cons rfl (.cons rfl (.nil rfl))))))⟩

set_option linter.constructorNameAsVariable false
theorem und_struct {P : Program} {t : TypeId} (n : Nat) (h : (match P.underlying t with | some (.struct fs) => Nat.beq fs.size n | _ => false) = true) : ∃ fs, P.underlying t = some (.struct fs) := by
  cases hu : P.underlying t with
  | none => rw [hu] at h; cases h
  | some ty => rw [hu] at h; cases ty <;> first | exact ⟨_, rfl⟩ | cases h
theorem u38 : Try.prog.underlying 38 = some (.slice 3) := by kernel_rfl
theorem u3 : Try.prog.underlying 3 = some (.int .i64) := by kernel_rfl
theorem u22 : Try.prog.underlying 22 = some (.slice 52) := by kernel_rfl
theorem u25 : Try.prog.underlying 25 = some (.slice 64) := by kernel_rfl
def fts (P : Program) (t : TypeId) : List TypeId := match P.underlying t with | some (.struct fs) => fs.toList.map (·.type) | _ => []
theorem f27 : fts Try.prog 27 = [22, 24, 25] := by kernel_rfl
theorem f24 : fts Try.prog 24 = [3, 3] := by kernel_rfl
theorem f52 : fts Try.prog 52 = [24, 3] := by kernel_rfl
theorem f64 : fts Try.prog 64 = [24, 3] := by kernel_rfl
theorem shp_int {cs : List U} (h : Shp Try.prog 3 cs) : ∃ n : Int, cs = [.int .i64 n] := by
  cases h with
  | int _ k n hu _ => rw [u3] at hu; cases hu; exact ⟨n, rfl⟩
  | bool _ _ hu => rw [u3] at hu; cases hu
  | str _ _ hu => rw [u3] at hu; cases hu
  | slice _ _ _ hu => rw [u3] at hu; cases hu
  | struct _ _ _ hu => rw [u3] at hu; cases hu
  | array _ _ _ _ hu => rw [u3] at hu; cases hu
/-- a struct, by its fields' types -/
theorem shp_fields {P : Program} {t : TypeId} {cs : List U} (h : Shp P t cs) (hne : fts P t ≠ []) : ∃ fs : List Field, fs.map (·.type) = fts P t ∧ ShpF P fs cs := by
  have no : ∀ {ty}, P.underlying t = some ty → (∀ fs, ty ≠ .struct fs) → False := fun hu hn => hne (by unfold fts; rw [hu]; split <;> simp_all)
  cases h with
  | struct _ fs _ hu hf => exact ⟨fs.toList, by unfold fts; rw [hu], hf⟩
  | int _ k n hu _ => exact (no hu (by intro fs h; cases h)).elim
  | bool _ _ hu => exact (no hu (by intro fs h; cases h)).elim
  | str _ _ hu => exact (no hu (by intro fs h; cases h)).elim
  | slice _ _ _ hu => exact (no hu (by intro fs h; cases h)).elim
  | array _ _ _ _ hu => exact (no hu (by intro fs h; cases h)).elim
theorem shpF_cons {P : Program} {fs : List Field} {t : TypeId} {ts : List TypeId} {cs : List U} (h : ShpF P fs cs) (e : fs.map (·.type) = t :: ts) : ∃ gs xs ys, cs = xs ++ ys ∧ Shp P t xs ∧ ShpF P gs ys ∧ gs.map (·.type) = ts := by
  cases h with
  | nil => cases e
  | cons f fs xs ys h1 h2 =>
    simp only [List.map_cons, List.cons.injEq] at e
    obtain ⟨rfl, rfl⟩ := e
    exact ⟨fs, xs, ys, rfl, h1, h2, rfl⟩
theorem shpF_nil {P : Program} {fs : List Field} {cs : List U} (h : ShpF P fs cs) (e : fs.map (·.type) = []) : cs = [] := by
  cases h with
  | nil => rfl
  | cons => cases e
theorem shp_span {cs : List U} (h : Shp Try.prog 24 cs) : ∃ a b : Int, cs = [.int .i64 a, .int .i64 b] := by
  obtain ⟨fs, e, hf⟩ := shp_fields h (by rw [f24]; simp)
  rw [f24] at e
  obtain ⟨g1, a1, b1, rfl, k1, r1, e1⟩ := shpF_cons hf e
  obtain ⟨g2, a2, b2, rfl, k2, r2, e2⟩ := shpF_cons r1 e1
  obtain rfl := shpF_nil r2 e2
  obtain ⟨x, rfl⟩ := shp_int k1
  obtain ⟨y, rfl⟩ := shp_int k2
  exact ⟨x, y, rfl⟩
theorem shp_tri {t : TypeId} (hft : fts Try.prog t = [24, 3]) {cs : List U} (h : Shp Try.prog t cs) : ∃ q : Tri, cs = [.int .i64 q.a, .int .i64 q.b, .int .i64 q.c] := by
  obtain ⟨fs, e, hf⟩ := shp_fields h (by rw [hft]; simp)
  rw [hft] at e
  obtain ⟨g1, a1, b1, rfl, k1, r1, e1⟩ := shpF_cons hf e
  obtain ⟨g2, a2, b2, rfl, k2, r2, e2⟩ := shpF_cons r1 e1
  obtain rfl := shpF_nil r2 e2
  obtain ⟨x, y, rfl⟩ := shp_span k1
  obtain ⟨z, rfl⟩ := shp_int k2
  exact ⟨⟨x, y, z⟩, rfl⟩
theorem shpL_map {P : Program} {e : TypeId} {α : Type} {f : α → List U} {css : List (List U)} (h : ShpL P e css) (k : ∀ cs, Shp P e cs → ∃ q, cs = f q) : ∃ l : List α, css = l.map f := by
  induction css with
  | nil => exact ⟨[], rfl⟩
  | cons cs css ih =>
    cases h with
    | cons _ _ _ h1 h2 =>
      obtain ⟨q, rfl⟩ := k _ h1
      obtain ⟨l, rfl⟩ := ih h2
      exact ⟨q :: l, rfl⟩
theorem shp_slice {P : Program} {t e : TypeId} {cs : List U} (hu : P.underlying t = some (.slice e)) (h : Shp P t cs) : ∃ css, ShpL P e css ∧ cs = [.lst .ro (P.cellsOf e) (css.map (eU P e))] := by
  cases h with
  | slice _ e' css hu' hl => rw [hu] at hu'; cases hu'; exact ⟨css, hl, rfl⟩
  | int _ k n hu' _ => rw [hu] at hu'; cases hu'
  | bool _ _ hu' => rw [hu] at hu'; cases hu'
  | str _ _ hu' => rw [hu] at hu'; cases hu'
  | struct _ _ _ hu' => rw [hu] at hu'; cases hu'
  | array _ _ _ _ hu' => rw [hu] at hu'; cases hu'
theorem eu52 : ∀ cs, eU Try.prog 52 cs = .agg cs := by
  obtain ⟨fs, h⟩ := und_struct (P := Try.prog) (t := 52) 2 (by kernel_rfl)
  intro cs; unfold eU; rw [h]
theorem eu64 : ∀ cs, eU Try.prog 64 cs = .agg cs := by
  obtain ⟨fs, h⟩ := und_struct (P := Try.prog) (t := 64) 2 (by kernel_rfl)
  intro cs; unfold eU; rw [h]
theorem eu3 : ∀ cs, eU Try.prog 3 cs = cs.headD .junk := by
  intro cs; unfold eU; rw [u3]
theorem map_tris {F : List U → U} (he : ∀ cs, F cs = .agg cs) (l : List Tri) : (l.map fun q : Tri => [U.int .i64 q.a, .int .i64 q.b, .int .i64 q.c]).map F = trisU l := by
  rw [List.map_map]
  exact List.map_congr_left fun q _ => he _
theorem map_ints {F : List U → U} (he : ∀ cs, F cs = cs.headD .junk) (l : List Int) : (l.map fun n : Int => [U.int .i64 n]).map F = intsU l := by
  rw [List.map_map]
  exact List.map_congr_left fun q _ => he _
theorem shp_tris {t e : TypeId} (hu : Try.prog.underlying t = some (.slice e)) (hc : Program.cellsOf Try.prog e = 3) (hft : fts Try.prog e = [24, 3]) (he : ∀ cs, eU Try.prog e cs = .agg cs) {cs : List U} (h : Shp Try.prog t cs) : ∃ l : List Tri, cs = [.lst .ro 3 (trisU l)] := by
  obtain ⟨css, hl, rfl⟩ := shp_slice hu h
  obtain ⟨l, rfl⟩ := shpL_map (f := fun q : Tri => [.int .i64 q.a, .int .i64 q.b, .int .i64 q.c]) hl fun cs hcs => shp_tri hft hcs
  refine ⟨l, ?_⟩
  rw [hc, map_tris he]
theorem shp_ints {cs : List U} (h : Shp Try.prog 38 cs) : ∃ l : List Int, cs = [.lst .ro 1 (intsU l)] := by
  obtain ⟨css, hl, rfl⟩ := shp_slice u38 h
  obtain ⟨l, rfl⟩ := shpL_map (f := fun n : Int => [.int .i64 n]) hl fun cs hcs => shp_int hcs
  refine ⟨l, ?_⟩
  rw [cl3, map_ints eu3]
theorem shp_shop {cs : List U} (h : Shp Try.prog 27 cs) : ∃ s : Shop, cs = s.cs := by
  obtain ⟨fs, e, hf⟩ := shp_fields h (by rw [f27]; simp)
  rw [f27] at e
  obtain ⟨g1, a1, b1, rfl, k1, r1, e1⟩ := shpF_cons hf e
  obtain ⟨g2, a2, b2, rfl, k2, r2, e2⟩ := shpF_cons r1 e1
  obtain ⟨g3, a3, b3, rfl, k3, r3, e3⟩ := shpF_cons r2 e2
  obtain rfl := shpF_nil r3 e3
  obtain ⟨t, rfl⟩ := shp_tris u22 cl52 f52 eu52 k1
  obtain ⟨lo, hi, rfl⟩ := shp_span k2
  obtain ⟨k, rfl⟩ := shp_tris u25 cl64 f64 eu64 k3
  exact ⟨⟨t, lo, hi, k⟩, rfl⟩
theorem u28 : Try.prog.underlying 28 = some (.array 2 3) := by kernel_rfl
theorem shp_two {cs : List U} (h : Shp Try.prog 28 cs) : ∃ a b : Int, cs = [.int .i64 a, .int .i64 b] := by
  cases h with
  | array _ n e css hu hl hn =>
    rw [u28] at hu; cases hu
    obtain ⟨l, rfl⟩ := shpL_map (f := fun n : Int => [U.int .i64 n]) hl fun cs hcs => shp_int hcs
    rw [List.length_map] at hn
    match l, hn with
    | [a, b], _ => exact ⟨a, b, rfl⟩
  | int _ k n hu _ => rw [u28] at hu; cases hu
  | bool _ _ hu => rw [u28] at hu; cases hu
  | str _ _ hu => rw [u28] at hu; cases hu
  | slice _ _ _ hu => rw [u28] at hu; cases hu
  | struct _ _ _ hu => rw [u28] at hu; cases hu

/-! ### Lucky -/
abbrev lkX (s : Shop) (es : List (U × U)) : List SB := ([.box s.cs] ++ ([.box s.cs, .box (shopC s 7 13)] ++ new68 s 3 [] es)) ++ [.box (shopC s 7 13)]
theorem bd_lk (s : Shop) {es : List (U × U)} (he : Memo s false es) : ∀ x ∈ lkX s es, BdS 20 x := by
  intro x hx
  simp only [lkX, new68, List.mem_append] at hx
  rcases hx with ((hx | (hx | (hx | (hx | hx)))) | hx)
  · rcases List.mem_singleton.1 hx with rfl; exact bd_cs _ _
  · simp only [List.mem_cons, List.not_mem_nil, or_false] at hx
    rcases hx with rfl | rfl
    · exact bd_cs _ _
    · exact bd_shopC s (by decide) (by decide)
  · simp only [List.mem_cons, List.not_mem_nil, or_false] at hx
    rcases hx with rfl | rfl | rfl | rfl
    · exact bd_cs _ _
    · exact bd_shopC s (by decide) (by decide)
    · exact bd_shopC s (by decide) (by decide)
    · exact fun c hc => (nb_ways c hc).bd _
  · exact bd_six s true false (by decide) (Memo.nil _ _) x hx
  · exact bd_six s false false (by decide) he x hx
  · rcases List.mem_singleton.1 hx with rfl; exact bd_shopC s (by decide) (by decide)
theorem sr_lk (s : Shop) : Sr s false 20 13 14 15 16 17 18 (lkX s) := ⟨fun _ => rfl, fun _ he => bd_lk s he, fun _ => rfl, fun _ => rfl, fun _ => rfl, fun _ => rfl, fun _ => rfl, fun _ => rfl, fun _ _ => rfl, by decide⟩
-- 55 saron/rasp.unlessNever params [3] pure True
def unN (n : Int) : Int := if n = 31 then 0 else n
def unE (n : Int) : Int := if n = 31 then 4 else 0
noncomputable def b55 : Code := (Try.f55.body).getD .skip
theorem body55 : bodyOf Try.prog 55 = some (7, b55, [.tmp 2, .tmp 3]) := by kernel_rfl
theorem pure55 : pureFn Try.prog 55 = true := by kernel_rfl
theorem ret55 (hi : Off is) (n : Int) : RetP Try.prog is orc 55 [.int .i64 n] (.tup [.int .i64 (unN n), .int .i64 (unE n)]) := by
  refine ret_of body55 pure55 (hi 55 (by decide)) rfl rfl (dat_l1 (.int _ _ _)) (.inr ⟨_, rfl, dat_l2 (.int _ _ _) (.int _ _ _)⟩) ?_
  refine k_seq (k_region ?_)
  refine o_assign rfl ?_
  refine o_assign rfl ?_
  refine o_nil ?_
  refine k_seq ?_
  refine k_seq (k_region ?_)
  refine o_move rfl ?_
  refine o_eql rfl rfl rfl ?_
  refine o_nil ?_
  refine k_cond rfl (fun h1 => ?_) (fun h1 => ?_)
  · have h1 : n = 31 := of_decide_eq_true h1
    refine k_seq (k_region ?_)
    refine o_assign rfl ?_
    refine o_assign rfl ?_
    refine o_nil ?_
    refine k_ret ?_
    refine ⟨.inr rfl, _, .cons _ _ _ _ (.tmp 2) (.cons _ _ _ _ (.tmp 3) .nil), ?_⟩
    rw [show unN n = 0 from if_pos h1, show unE n = 4 from if_pos h1]; exact .refl _
  · have h1 : ¬ n = 31 := of_decide_eq_false h1
    refine k_skip ?_
    refine k_seq (k_region ?_)
    refine o_move rfl ?_
    refine o_assign rfl ?_
    refine o_assign rfl ?_
    refine o_nil ?_
    refine k_ret ?_
    refine ⟨.inr rfl, _, .cons _ _ _ _ (.tmp 2) (.cons _ _ _ _ (.tmp 3) .nil), ?_⟩
    rw [show unN n = n from if_neg h1, show unE n = 0 from if_neg h1]; exact .refl _
-- 18 saron/rasp.Lucky params [27, 3, 3] pure True
noncomputable def b18 : Code := (Try.f18.body).getD .skip
theorem body18 : bodyOf Try.prog 18 = some (34, b18, [.tmp 6, .tmp 7]) := by kernel_rfl
theorem pure18 : pureFn Try.prog 18 = true := by kernel_rfl
set_option maxHeartbeats 4000000 in
theorem ret18 (hi : Off is) {s : Shop} (hk : SOk s) {off metal : Int} (ho : offB off = true) (hm : metB metal = true) : RetP Try.prog is orc 18 [s.u, .int .i64 off, .int .i64 metal] (.tup [.int .i64 (unN (cho s false off metal).2), .int .i64 (unE (cho s false off metal).2)]) := by
  have hm' : 0 ≤ metal ∧ metal ≤ 30 := by unfold metB at hm; simpa using hm
  have hck : RetP Try.prog is orc 16 [s.u] (.int .i64 0) := by have := chk (orc := orc) hi s; rwa [chk_ok hk] at this
  have h47 : RetP Try.prog is orc 47 [.int .i64 off] (.bool true) := by
    have := ret47 (orc := orc) hi off
    rwa [show (decide (-60 ≤ off) && decide (off ≤ 60)) = true from ho] at this
  have h48 : RetP Try.prog is orc 48 [.int .i64 metal] (.bool true) := by
    have := ret48 (orc := orc) hi metal
    rwa [show (decide (0 ≤ metal) && decide (metal ≤ 30)) = true from hm] at this
  refine ret_of body18 pure18 (hi 18 (by decide)) rfl rfl (dat_next s off metal) (.inr ⟨_, rfl, dat_l2 (.int _ _ _) (.int _ _ _)⟩) ?_
  refine k_seq (k_region ?_)
  refine o_box rfl rfl ?_
  refine o_assign rfl ?_
  refine o_assign rfl ?_
  refine o_nil ?_
  refine k_seq ?_
  refine k_draw [.read true, .plain, .read false, .plain, .plain, .read false, .plain, .quiet, .plain, .plain, .plain, .pre, .plain, .plain] (by kernel_rfl) (by kernel_rfl) (by kernel_rfl) ?_
  refine d_load rfl (o_loadN rfl rfl rfl sh27 rfl (o_nil rfl)) ?_
  refine d_plain (o_move rfl (o_nil rfl)) ?_
  refine d_callR rfl h47 (.bool _) (.lrefl _) ?_
  refine d_plain (o_move rfl (o_nil rfl)) ?_
  refine d_guard rfl rfl rfl rfl (fun _ => ?_) (fun h => by cases h)
  refine d_plain (o_move rfl (o_nil rfl)) ?_
  refine d_guard rfl rfl rfl rfl (fun _ => ?_) (fun h => by cases h)
  refine d_callR rfl h48 (.bool _) (.lrefl _) ?_
  refine d_plain (o_pickT rfl rfl rfl (o_nil rfl)) ?_
  refine d_callQW (n := 1) (args := [s.u, .bool true]) (M := fun u new => u = .tup [.agg (shopC s 7 13), .int .i64 0] ∧ new = [.box s.cs, .box (shopC s 7 13)] ++ new68 s 3 [] []) rfl rfl (fun u hu => by
    simp only [List.mem_cons, List.not_mem_nil, or_false] at hu
    rcases hu with rfl | rfl
    · exact (dat_shop s 5).nb
    · exact NB.bool _) ((wpc46 hi s hck _).mono fun u st' hM => ?_) (.lrefl _) (fun u new hM => ?_)
  · obtain ⟨rfl, rfl⟩ := hM
    rw [List.length_replicate]
    refine ⟨[.box s.cs, .box (shopC s 7 13)] ++ new68 s 3 [] [], rfl, Fwd.tup fun c hc => ?_, fun x hx => ?_, rfl, rfl⟩
    · simp only [List.mem_cons, List.not_mem_nil, or_false] at hc
      rcases hc with rfl | rfl
      · exact Fwd.agg (fd_shopC s (by decide) (by decide))
      · exact (NB.int _ _).fwd _
    · rcases List.mem_append.1 hx with hx | hx
      · simp only [List.mem_cons, List.not_mem_nil, or_false] at hx
        rcases hx with rfl | rfl
        · exact fd_cs _ _
        · exact fd_shopC s (by decide) (by decide)
      · exact fd_new s (by decide) x hx
  · obtain ⟨rfl, rfl⟩ := hM
    refine d_plain (o_move rfl (o_nil rfl)) ?_
    refine d_plain (o_extract rfl rfl rfl (o_nil rfl)) ?_
    refine d_plain (o_extract rfl rfl rfl (o_nil rfl)) ?_
    refine d_pre rfl ze73 ?_
    refine d_plain (o_storeN rfl rfl sh73 rfl rfl rfl rfl rfl (o_nil rfl)) ?_
    refine d_plain (o_assign rfl (o_nil rfl)) ?_
    refine d_nil ?_
    refine k_gen [(1, .int .i64 off), (2, .int .i64 metal), (8, .box 19 0), (9, .int .i64 0)] (lkX s []) (.cons rfl (.cons rfl (.cons rfl (.cons rfl (.nil rfl))))) rfl fun fr => ?_
    refine k_seq ?_
    refine k_seq (k_region ?_)
    refine o_move rfl ?_
    refine o_neq rfl rfl rfl ?_
    refine o_nil ?_
    refine k_cond rfl (fun h1 => absurd h1 (by decide)) (fun _ => ?_)
    refine k_skip ?_
    refine k_seq (k_region ?_)
    refine o_faddr rfl rfl fld73_2 ?_
    refine o_load1 rfl rfl (cs := shopC s 7 13) rfl sh71 rfl ?_
    refine o_move rfl ?_
    refine o_move rfl ?_
    refine o_build (cs := [.int .i64 off, .int .i64 metal]) rfl ze80 pl80 rfl rfl ?_
    refine o_callV rfl rfl (by
      have := wpc82 (orc := orc) hi hk (sr_lk s) 31 metal off (by omega) hm'.1 hm'.2 [] [] (Memo.nil _ _) (fun x hx => by cases hx)
      rw [List.append_nil] at this
      exact this) (.lrefl _) (fun u st1 hM => ?_)
    obtain ⟨rfl, es, he, rfl⟩ := hM
    refine o_field1 rfl rfl fld78_1 sh3 rfl ?_
    refine o_call rfl (ret55 hi _) (.lrefl _) ?_
    refine o_extract rfl rfl rfl ?_
    refine o_extract rfl rfl rfl ?_
    refine o_assign rfl ?_
    refine o_assign rfl ?_
    refine o_nil ?_
    refine k_ret ?_
    refine ⟨.inr rfl, _, .cons _ _ _ _ (.tmp 6) (.cons _ _ _ _ (.tmp 7) .nil), ?_⟩
    exact .refl _

/-! ### A shop whose tools do just one thing each -/
def sgT (l : List Int) (i : Nat) (t : Tri) : Tri := ⟨drawI t.a t.b (nthI l i), drawI t.a t.b (nthI l i), t.c⟩
def sgl (T : List Tri) (l : List Int) : Nat → List Tri
  | 0 => []
  | n + 1 => match T[n]? with
    | some t => sgl T l n ++ [sgT l n t]
    | none => sgl T l n
abbrev sgS (s : Shop) (l : List Int) : Shop := ⟨sgl s.tools l s.tools.length, s.flo, s.fhi, s.keys⟩
theorem sgl_succ {T : List Tri} {l : List Int} {n : Nat} {t : Tri} (h : T[n]? = some t) : sgl T l (n + 1) = sgl T l n ++ [sgT l n t] := by
  show (match T[n]? with | some t => sgl T l n ++ [sgT l n t] | none => sgl T l n) = _
  rw [h]
theorem sgl_len (T : List Tri) (l : List Int) : ∀ n, n ≤ T.length → (sgl T l n).length = n := by
  intro n
  induction n with
  | zero => intro _; rfl
  | succ n ih =>
    intro h
    rw [sgl_succ (List.getElem?_eq_getElem (by omega)), List.length_append, ih (by omega)]; rfl
theorem sgl_get {T : List Tri} {l : List Int} : ∀ {n i : Nat} {t : Tri}, n ≤ T.length → i < n → T[i]? = some t → (sgl T l n)[i]? = some (sgT l i t) := by
  intro n
  induction n with
  | zero => intro i t _ h; omega
  | succ n ih =>
    intro i t hn hi ht
    have hlen := sgl_len T l n (by omega)
    rw [sgl_succ (List.getElem?_eq_getElem (by omega : n < T.length))]
    by_cases e : i = n
    · subst e
      rw [List.getElem?_append_right (by omega), hlen, Nat.sub_self]
      have : T[i] = t := by rw [List.getElem?_eq_getElem (by omega)] at ht; exact Option.some.inj ht
      rw [this]; rfl
    · rw [List.getElem?_append_left (by omega)]
      exact ih (by omega) (by omega) ht
theorem sgl_mem {T : List Tri} {l : List Int} : ∀ {n : Nat} {u : Tri}, u ∈ sgl T l n → ∃ i t, T[i]? = some t ∧ u = sgT l i t := by
  intro n
  induction n with
  | zero => intro u h; cases h
  | succ n ih =>
    intro u h
    cases ht : T[n]? with
    | none =>
      have e : sgl T l (n + 1) = sgl T l n := by show (match T[n]? with | some t => sgl T l n ++ [sgT l n t] | none => sgl T l n) = _; rw [ht]
      rw [e] at h; exact ih h
    | some t =>
      rw [sgl_succ ht] at h
      rcases List.mem_append.1 h with h | h
      · exact ih h
      · exact ⟨n, t, ht, List.mem_singleton.1 h⟩
theorem sg_ok {s : Shop} (hk : SOk s) (l : List Int) : SOk (sgS s l) := by
  refine ⟨by show 1 ≤ (sgl _ _ _).length ∧ (sgl _ _ _).length ≤ 4; rw [sgl_len _ _ _ (Nat.le_refl _)]; exact hk.nt, hk.fine, hk.nk, fun u hu => ?_, hk.keys⟩
  obtain ⟨i, t, ht, rfl⟩ := sgl_mem hu
  have hb := hk.tools t (List.mem_of_getElem? ht)
  have hd := draw_b (nthI l i) hb.2.1
  exact ⟨by show -30 ≤ drawI _ _ _; omega, Int.le_refl _, by show drawI _ _ _ ≤ 30; omega, hb.2.2.2.1, hb.2.2.2.2⟩
theorem foldmin_mem_le (l : List Int) : ∀ (a x : Int), x ∈ l → l.foldl (fun a b => min a b) a ≤ x := by
  induction l with
  | nil => intro a x h; cases h
  | cons y l ih =>
    intro a x h
    show l.foldl _ (min a y) ≤ x
    rcases List.mem_cons.1 h with rfl | h
    · have := foldmin_le l (min a x); omega
    · exact ih _ _ h
theorem hit_one (rec : Int → Int → Int) (off metal : Int) {t : Tri} (h : t.a = t.b) : hitL rec off metal t (widM t) = [rec (off + t.a) (metal - t.c)] := by
  have e : widM t = 1 := by unfold widM; omega
  rw [e]
  show [rec (off + (t.a + (0 : Nat))) (metal - t.c)] = _
  rw [show t.a + ((0 : Nat) : Int) = t.a by simp]
theorem step_single {rec rec' : Int → Int → Int} (hr : ∀ o m, rec o m = rec' o m) (hb : ∀ o m, 0 ≤ rec o m ∧ rec o m ≤ 31) {off metal : Int} {tk : Int × Int} {i : Nat} {t : Tri} (h : t.a = t.b) (htk : tk.2 ≤ 31) : stepT rec true off metal tk i t = stepT rec' false off metal tk i t := by
  unfold stepT
  rw [hit_one rec _ _ h, hit_one rec' _ _ h, ← hr]
  have hx := hb (off + t.a) (metal - t.c)
  generalize rec (off + t.a) (metal - t.c) = x at hx
  have e1 : cntL true [x] = x := by show max 0 x = x; omega
  have e2 : cntL false [x] = x := by show min 31 x = x; omega
  rw [e1, e2]
  by_cases hm : metal < t.c
  · rw [if_pos hm, if_pos hm]
  · rw [if_neg hm, if_neg hm]
    by_cases h31 : x = 31
    · subst h31
      have q2 : ¬ ((false && [(31 : Int)].any fun x => decide (x = 31)) = true) := by simp
      rw [if_pos (by rfl), if_neg q2, if_neg (by omega)]
    · have q1 : ¬ ((true && [x].any fun x => decide (x = 31)) = true) := by simp [h31]
      have q2 : ¬ ((false && [x].any fun x => decide (x = 31)) = true) := by simp
      rw [if_neg q1, if_neg q2]
theorem take_single {T : List Tri} (hT : ∀ t ∈ T, t.a = t.b) {rec rec' : Int → Int → Int} (hr : ∀ o m, rec o m = rec' o m) (hb : ∀ o m, 0 ≤ rec o m ∧ rec o m ≤ 31) {off metal : Int} (i : Nat) : takeT T rec true off metal i = takeT T rec' false off metal i := by
  induction i with
  | zero => rfl
  | succ i ih =>
    unfold takeT
    cases ht : T[i]? with
    | none => exact ih
    | some t =>
      show stepT rec true off metal _ i t = stepT rec' false off metal _ i t
      rw [← ih]
      have := take_b (T := T) (w := true) (off := off) (metal := metal) hb i
      exact step_single hr hb (hT t (List.mem_of_getElem? ht)) this.2.1
theorem chs_single {s : Shop} (hT : ∀ t ∈ s.tools, t.a = t.b) : ∀ (n : Nat) (off metal : Int), chs s true n off metal = chs s false n off metal := by
  intro n
  induction n with
  | zero => intro off metal; rfl
  | succ n ih =>
    intro off metal
    unfold chs
    split
    · rfl
    · split
      · exact take_single hT (fun o m => by rw [ih o m]) (fun o m => ⟨(chs_b s true n o m).1, (chs_b s true n o m).2.1⟩) _
      · rfl
theorem sg_one (s : Shop) (l : List Int) : ∀ t ∈ (sgS s l).tools, t.a = t.b := fun u hu => by obtain ⟨i, t, _, rfl⟩ := sgl_mem hu; rfl
theorem cho_single (s : Shop) (l : List Int) (off metal : Int) : cho (sgS s l) true off metal = cho (sgS s l) false off metal := chs_single (sg_one s l) _ _ _
theorem step_snd {rec : Int → Int → Int} {off metal : Int} {tk : Int × Int} {i : Nat} {t : Tri} : (stepT rec false off metal tk i t).2 = if metal < t.c then tk.2 else min tk.2 (cntL false (hitL rec off metal t (widM t)) + 1) := by
  unfold stepT
  by_cases hm : metal < t.c
  · rw [if_pos hm, if_pos hm]
  · rw [if_neg hm, if_neg hm, if_neg (by exact fun h => by cases h)]
    split
    · show _ + 1 = _; omega
    · omega
theorem take_less {T : List Tri} (hT : ∀ t ∈ T, t.a ≤ t.b) {l : List Int} {rec rec' : Int → Int → Int} (hr : ∀ o m, rec o m ≤ rec' o m) (hb : ∀ o m, 0 ≤ rec' o m ∧ rec' o m ≤ 31) {off metal : Int} {N : Nat} (hN : N ≤ T.length) : ∀ i, i ≤ N → (takeT T rec false off metal i).2 ≤ (takeT (sgl T l N) rec' false off metal i).2 := by
  intro i
  induction i with
  | zero => intro _; exact Int.le_refl _
  | succ i ih =>
    intro hi
    have ih := ih (by omega)
    obtain ⟨t, ht⟩ : ∃ t, T[i]? = some t := ⟨T[i], List.getElem?_eq_getElem (by omega)⟩
    unfold takeT
    rw [ht, sgl_get hN (by omega) ht]
    show (stepT rec false off metal _ i t).2 ≤ (stepT rec' false off metal _ i (sgT l i t)).2
    rw [step_snd, step_snd, hit_one rec' _ _ (t := sgT l i t) rfl]
    show _ ≤ if metal < t.c then _ else _
    by_cases hm : metal < t.c
    · rw [if_pos hm, if_pos hm]; exact ih
    · rw [if_neg hm, if_neg hm]
      have hd := draw_b (nthI l i) (hT t (List.mem_of_getElem? ht))
      have hx := hb (off + (sgT l i t).a) (metal - (sgT l i t).c)
      have hy := hr (off + (sgT l i t).a) (metal - (sgT l i t).c)
      have hmem : rec (off + (sgT l i t).a) (metal - (sgT l i t).c) ∈ hitL rec off metal t (widM t) := by
        refine List.mem_map.2 ⟨(drawI t.a t.b (nthI l i) - t.a).toNat, List.mem_range.2 (by unfold widM; omega), ?_⟩
        show rec (off + (t.a + ((drawI t.a t.b (nthI l i) - t.a).toNat : Nat))) _ = rec (off + drawI t.a t.b (nthI l i)) _
        rw [show t.a + (((drawI t.a t.b (nthI l i) - t.a).toNat : Nat) : Int) = drawI t.a t.b (nthI l i) by omega]; rfl
      have h1 : cntL false (hitL rec off metal t (widM t)) ≤ rec (off + (sgT l i t).a) (metal - (sgT l i t).c) := foldmin_mem_le _ 31 _ hmem
      have h2 : cntL false [rec' (off + (sgT l i t).a) (metal - (sgT l i t).c)] = rec' (off + (sgT l i t).a) (metal - (sgT l i t).c) := by
        generalize rec' (off + (sgT l i t).a) (metal - (sgT l i t).c) = x at hx
        show min 31 x = x; omega
      rw [h2]; omega
theorem chs_less {s : Shop} (hk : SOk s) (l : List Int) : ∀ (n : Nat) (off metal : Int), (chs s false n off metal).2 ≤ (chs (sgS s l) false n off metal).2 := by
  intro n
  induction n with
  | zero => intro off metal; exact Int.le_refl _
  | succ n ih =>
    intro off metal
    unfold chs
    by_cases hf : fineB s off = true
    · rw [if_pos hf, if_pos (show fineB (sgS s l) off = true from hf)]; exact Int.le_refl _
    · rw [if_neg hf, if_neg (show ¬ fineB (sgS s l) off = true from hf)]
      by_cases ho : offB off = true
      · rw [if_pos ho, if_pos ho, show (sgS s l).tools.length = s.tools.length from sgl_len _ _ _ (Nat.le_refl _)]
        exact take_less (fun t ht => (hk.tools t ht).2.1) (fun o m => ih o m) (fun o m => ⟨(chs_b (sgS s l) false n o m).1, (chs_b (sgS s l) false n o m).2.1⟩) (Nat.le_refl _) _ (Nat.le_refl _)
      · rw [if_neg ho, if_neg ho]; exact Int.le_refl _
theorem cho_less {s : Shop} (hk : SOk s) (l : List Int) (off metal : Int) : (cho s false off metal).2 ≤ (cho (sgS s l) false off metal).2 := chs_less hk l _ _ _
/-- a list of tools that grows -/
def accT (l : List Tri) : U := match l with
  | [] => .lst .full 0 []
  | l => .lst .own 3 (trisU l)
theorem accT_snoc (x : Tri) (l : List Tri) : accT (l ++ [x]) = .lst .own 3 (trisU l ++ [x.u]) := by
  cases l <;> simp [accT]
theorem uw_accT (l : List Tri) : UW (.u (accT l)) (.u (.lst .ro 3 (trisU l))) := by
  cases l with
  | nil => exact .nil .full .ro 3
  | cons x l => exact .ro .own 3 _

def nxt (c : Int × Int) : Int := if c.2 = 31 then 0 else c.1
def nxn (c : Int × Int) : Int := if c.2 = 31 then 0 else c.2
def nxe (c : Int × Int) : Int := if c.2 = 31 then 4 else 0
theorem ret14g (hi : Off is) {s : Shop} (hk : SOk s) {off metal : Int} (ho : offB off = true) (hm : metB metal = true) : RetP Try.prog is orc 14 [s.u, .int .i64 off, .int .i64 metal] (.tup [.int .i64 (nxt (cho s true off metal)), .int .i64 (nxn (cho s true off metal)), .int .i64 (nxe (cho s true off metal))]) := by
  unfold nxt nxn nxe
  by_cases h : (cho s true off metal).2 = 31
  · rw [if_pos h, if_pos h, if_pos h]; exact ret14z hi hk ho hm h
  · rw [if_neg h, if_neg h, if_neg h]; exact ret14a hi hk ho hm rfl h
def aftN (s : Shop) (off metal : Int) (t : Tri) : Int := if spoilT s off metal t = true then 0 else hitT s off metal t
theorem spoil_few {s : Shop} {off metal : Int} {t : Tri} (h : metal < t.c) : spoilT s off metal t = true := by
  unfold spoilT; rw [decide_eq_true h]; rfl
theorem spoil_hit {s : Shop} {off metal : Int} {t : Tri} {j : Nat} (hj : j < widM t) (h : (cho s true (off + (t.a + j)) (metal - t.c)).2 = 31) : spoilT s off metal t = true := by
  unfold spoilT
  rw [Bool.or_eq_true]
  exact .inr (List.any_eq_true.2 ⟨_, List.mem_map.2 ⟨j, List.mem_range.2 hj, rfl⟩, by simp [recT, h]⟩)
theorem cho_out {s : Shop} (hs : SOk s) {off metal : Int} (h0 : 0 ≤ metal) (h : offB off = false) : (cho s true off metal).2 = 31 := by
  by_cases h1 : (cho s true off metal).2 = 31
  · exact h1
  · rw [cho_off hs h0 h1] at h; cases h
def Aft (s : Shop) (off metal : Int) (t : Tri) (j : Nat) : Prop := (hitL (recT s) off metal t j).any (fun x => decide (x = 31)) = false ∧ (0 < j → t.c ≤ metal)
theorem aft_zero (s : Shop) (off metal : Int) (t : Tri) : Aft s off metal t 0 := ⟨rfl, fun h => absurd h (Nat.lt_irrefl _)⟩
theorem aft_succ {s : Shop} {off metal : Int} {t : Tri} {j : Nat} (h : Aft s off metal t j) (hc : t.c ≤ metal) (hn : (cho s true (off + (t.a + j)) (metal - t.c)).2 ≠ 31) : Aft s off metal t (j + 1) := by
  refine ⟨?_, fun _ => hc⟩
  rw [hit_succ, List.any_append, h.1]
  simp [recT, hn]
theorem cnt_succ {s : Shop} {off metal : Int} {t : Tri} {j : Nat} : cntL true (hitL (recT s) off metal t (j + 1)) = max (cntL true (hitL (recT s) off metal t j)) (cho s true (off + (t.a + j)) (metal - t.c)).2 := by
  rw [hit_succ]
  unfold cntL
  simp only [if_true, List.foldl_append, List.foldl_cons, List.foldl_nil]
  rfl

-- 38 saron/saronlaw03.after params [27, 52, 3, 3] pure True
noncomputable def b38 : Code := (Try.f38.body).getD .skip
theorem body38 : bodyOf Try.prog 38 = some (55, b38, [.tmp 8, .tmp 9]) := by kernel_rfl
theorem pure38 : pureFn Try.prog 38 = true := by kernel_rfl
set_option maxHeartbeats 4000000 in
theorem ret38 (hi : Off is) {s : Shop} (hk : SOk s) {off metal : Int} (ho : offB off = true) (hm : metB metal = true) {t : Tri} (ht : t ∈ s.tools) : RetP Try.prog is orc 38 [s.u, t.u, .int .i64 off, .int .i64 metal] (.tup [.int .i64 (aftN s off metal t), .bool (spoilT s off metal t)]) := by
  refine ret_of body38 pure38 (hi 38 (by decide)) rfl rfl (fun v hv => by
    simp only [List.mem_cons, List.not_mem_nil, or_false] at hv
    rcases hv with rfl | rfl | rfl | rfl
    · exact dat_shop s 5
    · exact .agg _ _ (dat_l3 (.int _ _ _) (.int _ _ _) (.int _ _ _))
    · exact .int _ _ _
    · exact .int _ _ _) (.inr ⟨_, rfl, dat_l2 (.int _ _ _) (.bool _ _)⟩) ?_
  have hb := hk.tools t ht
  have hm' : 0 ≤ metal ∧ metal ≤ 30 := by unfold metB at hm; simpa using hm
  have ho' : -60 ≤ off ∧ off ≤ 60 := by unfold offB at ho; simpa using ho
  refine k_seq ?_
  refine k_region ?_   -- region 0 outright.go:86
  refine o_box rfl rfl ?_
  refine o_box rfl rfl ?_
  refine o_assign rfl ?_
  refine o_assign rfl ?_
  refine o_nil ?_
  refine k_seq ?_
  refine k_region ?_   -- region 1 outright.go:87
  refine o_assign rfl ?_
  refine o_nil ?_
  refine k_seq ?_
  refine k_seq ?_
  refine k_region ?_   -- region 2 outright.go:88
  first | refine o_faddr rfl rfl fld52_0 ?_ | refine o_faddrR rfl rfl fld52_0 ?_
  first | refine o_faddr rfl rfl fld24_0 ?_ | refine o_faddrR rfl rfl fld24_0 ?_
  first | refine o_load1 rfl rfl rfl sh3 rfl ?_ | refine o_loadR1 rfl rfl sh3 rfl ?_
  refine o_assign rfl ?_
  refine o_nil ?_
  refine k_block ?_
  -- LOOP 1
  refine k_loop (fun k st => ∃ j : Nat, k + j = widM t ∧ Aft s off metal t j ∧ st.st = [.box s.cs, .box [.int .i64 t.a, .int .i64 t.b, .int .i64 t.c]] ∧ Holds st [(2, .int .i64 off), (3, .int .i64 metal), (4, .box 0 0), (5, .box 1 0), (8, .int .i64 0), (9, .bool false), (10, .int .i64 (cntL true (hitL (recT s) off metal t j))), (11, .int .i64 (t.a + j))]) (fun k st hI => ?_) (widM t) _ ?_
  · obtain ⟨j, hkj, hA, hst, hs⟩ := hI
    refine k_gen _ _ hs hst fun fr => ?_
    refine k_seq ?_
    refine k_seq ?_
    refine k_region ?_   -- region 3 outright.go:88
    refine o_move rfl ?_
    first | refine o_faddr rfl rfl fld52_0 ?_ | refine o_faddrR rfl rfl fld52_0 ?_
    first | refine o_faddr rfl rfl fld24_1 ?_ | refine o_faddrR rfl rfl fld24_1 ?_
    first | refine o_load1 rfl rfl rfl sh3 rfl ?_ | refine o_load1 rfl rfl (at_set _ _ _) sh3 rfl ?_ | refine o_load1 rfl rfl (at_new _ _) sh3 rfl ?_ | refine o_load1 rfl rfl (at_old2 hst) sh3 rfl ?_ | refine o_load1 rfl rfl (at_old hst) sh3 rfl ?_ | refine o_load1 rfl rfl hst sh3 rfl ?_ | refine o_loadR1 rfl rfl sh3 rfl ?_
    refine o_leq rfl rfl rfl ?_
    refine o_nil ?_
    refine k_cond rfl (fun h1 => ?_) (fun h1 => ?_)   -- slot 22
    · have hj1 : j < widM t := by
        have := show t.a + (j : Int) ≤ t.b from of_decide_eq_true h1
        unfold widM; omega
      have h1t := show t.a + (j : Int) ≤ t.b from of_decide_eq_true h1
      refine k_skip ?_
      refine k_seq ?_
      refine k_block ?_
      refine k_seq ?_
      refine k_seq ?_
      refine k_region ?_   -- region 5 outright.go:89
      first | refine o_faddr rfl rfl fld52_1 ?_ | refine o_faddrR rfl rfl fld52_1 ?_
      first | refine o_load1 rfl rfl rfl sh3 rfl ?_ | refine o_load1 rfl rfl (at_set _ _ _) sh3 rfl ?_ | refine o_load1 rfl rfl (at_new _ _) sh3 rfl ?_ | refine o_load1 rfl rfl (at_old2 hst) sh3 rfl ?_ | refine o_load1 rfl rfl (at_old hst) sh3 rfl ?_ | refine o_load1 rfl rfl hst sh3 rfl ?_ | refine o_loadR1 rfl rfl sh3 rfl ?_
      refine o_move rfl ?_
      refine o_gtr rfl rfl rfl ?_
      refine o_move rfl ?_
      refine o_guard rfl rfl rfl rfl (fun h2 => ?_) (fun h2 => ?_)   -- slot 29
      · have hcm : t.c ≤ metal := by have := show ¬ metal < t.c from of_decide_eq_false h2; omega
        refine o_move rfl ?_
        refine o_guard rfl rfl rfl rfl (fun _ => ?_) (fun h => by rw [h2] at h; cases h)
        refine o_move rfl ?_
        refine o_guard rfl rfl rfl rfl (fun _ => ?_) (fun h => by rw [h2] at h; cases h)
        refine o_add rfl rfl rfl (by unfold I64; omega) ?_
        refine o_guard rfl rfl rfl rfl (fun _ => ?_) (fun h => by rw [h2] at h; cases h)
        refine o_call rfl (ret34 hi _ _ _) (.lrefl _) ?_
        refine o_guard rfl rfl rfl rfl (fun _ => ?_) (fun h => by rw [h2] at h; cases h)
        refine o_not rfl rfl ?_
        refine o_pickF rfl rfl h2 ?_
        refine o_nil ?_
        refine k_cond rfl (fun h3 => ?_) (fun h3 => ?_)   -- slot 35
        · refine k_seq ?_
          refine k_region ?_   -- region 6 outright.go:90
          refine o_assign rfl ?_
          refine o_assign rfl ?_
          refine o_nil ?_
          refine k_ret ?_
          refine ⟨.inr rfl, _, .cons _ _ _ _ (.tmp 8) (.cons _ _ _ _ (.tmp 9) .nil), ?_⟩
          have hsp := spoil_hit (s := s) (off := off) (metal := metal) hj1 (cho_out hk (show 0 ≤ metal - t.c by omega) (by unfold offB; exact (Bool.not_eq_true' _).mp h3))
          rw [show aftN s off metal t = 0 from if_pos hsp, hsp]; exact .refl _
        · have h3' : offB (off + (t.a + j)) = true := (Bool.not_eq_false' _).mp h3
          have hm2 : metB (metal - t.c) = true := by unfold metB; simp; omega
          have hcb := cho_b s true (off + (t.a + j)) (metal - t.c)
          refine k_skip ?_
          refine k_seq ?_
          refine k_region ?_   -- region 7 outright.go:92
          first | refine o_loadN rfl rfl rfl sh27 rfl ?_ | refine o_loadN rfl rfl (at_set _ _ _) sh27 rfl ?_ | refine o_loadN rfl rfl (at_new _ _) sh27 rfl ?_ | refine o_loadN rfl rfl (at_old2 hst) sh27 rfl ?_ | refine o_loadN rfl rfl (at_old hst) sh27 rfl ?_ | refine o_loadN rfl rfl hst sh27 rfl ?_ | refine o_loadRN rfl rfl sh27 rfl ?_
          refine o_move rfl ?_
          refine o_move rfl ?_
          refine o_add rfl rfl rfl (by unfold I64; omega) ?_
          refine o_move rfl ?_
          first | refine o_faddr rfl rfl fld52_1 ?_ | refine o_faddrR rfl rfl fld52_1 ?_
          first | refine o_load1 rfl rfl rfl sh3 rfl ?_ | refine o_load1 rfl rfl (at_set _ _ _) sh3 rfl ?_ | refine o_load1 rfl rfl (at_new _ _) sh3 rfl ?_ | refine o_load1 rfl rfl (at_old2 hst) sh3 rfl ?_ | refine o_load1 rfl rfl (at_old hst) sh3 rfl ?_ | refine o_load1 rfl rfl hst sh3 rfl ?_ | refine o_loadR1 rfl rfl sh3 rfl ?_
          refine o_sub rfl rfl rfl (by unfold I64; omega) ?_
          refine o_call rfl (ret14g hi hk h3' hm2) (.lrefl _) ?_
          refine o_move rfl ?_
          refine o_extract rfl rfl rfl ?_
          refine o_extract rfl rfl rfl ?_
          refine o_extract rfl rfl rfl ?_
          refine o_assign rfl ?_
          refine o_assign rfl ?_
          refine o_assign rfl ?_
          refine o_nil ?_
          refine k_seq ?_
          refine k_seq ?_
          refine k_region ?_   -- region 8 outright.go:93
          refine o_move rfl ?_
          refine o_neq rfl rfl rfl ?_
          refine o_nil ?_
          refine k_cond rfl (fun h4 => ?_) (fun h4 => ?_)   -- slot 50
          · refine k_seq ?_
            refine k_region ?_   -- region 9 outright.go:94
            refine o_assign rfl ?_
            refine o_assign rfl ?_
            refine o_nil ?_
            refine k_ret ?_
            refine ⟨.inr rfl, _, .cons _ _ _ _ (.tmp 8) (.cons _ _ _ _ (.tmp 9) .nil), ?_⟩
            have hsp := spoil_hit (s := s) (off := off) (metal := metal) hj1 (by
              unfold nxe at h4
              by_cases h : (cho s true (off + (t.a + j)) (metal - t.c)).2 = 31
              · exact h
              · rw [if_neg h] at h4; exact absurd h4 (by decide))
            rw [show aftN s off metal t = 0 from if_pos hsp, hsp]; exact .refl _
          · have hn4 : (cho s true (off + (t.a + j)) (metal - t.c)).2 ≠ 31 := fun h => by
              unfold nxe at h4; rw [if_pos h] at h4; exact absurd h4 (by decide)
            have e4 : nxn (cho s true (off + (t.a + j)) (metal - t.c)) = (cho s true (off + (t.a + j)) (metal - t.c)).2 := if_neg hn4
            refine k_skip ?_
            refine k_region ?_   -- region 10 outright.go:96
            refine o_move rfl ?_
            refine o_move rfl ?_
            refine o_max rfl rfl rfl ?_
            refine o_assign rfl ?_
            refine o_nil ?_
            refine k_region ?_   -- region 4 outright.go:88
            refine o_move rfl ?_
            refine o_add rfl rfl rfl (by unfold I64; omega) ?_
            refine o_assign rfl ?_
            refine o_nil ?_
            exact ⟨k - 1, by omega, j + 1, by omega, aft_succ hA hcm hn4, rfl, .cons rfl (.cons rfl (.cons rfl (.cons rfl (.cons rfl (.cons rfl (.cons (by rw [cnt_succ, ← e4]; rfl) (.cons (congrArg (U.int .i64) (by omega)) (.nil rfl))))))))⟩
      · refine o_guard rfl rfl rfl rfl (fun h => by rw [h2] at h; cases h) (fun _ => ?_)
        refine o_guard rfl rfl rfl rfl (fun h => by rw [h2] at h; cases h) (fun _ => ?_)
        refine o_guard rfl rfl rfl rfl (fun h => by rw [h2] at h; cases h) (fun _ => ?_)
        refine o_guard rfl rfl rfl rfl (fun h => by rw [h2] at h; cases h) (fun _ => ?_)
        refine o_pickT rfl rfl h2 ?_
        refine o_nil ?_
        refine k_cond rfl (fun _ => ?_) (fun h => by cases h)
        refine k_seq ?_
        refine k_region ?_   -- region 6 outright.go:90
        refine o_assign rfl ?_
        refine o_assign rfl ?_
        refine o_nil ?_
        refine k_ret ?_
        refine ⟨.inr rfl, _, .cons _ _ _ _ (.tmp 8) (.cons _ _ _ _ (.tmp 9) .nil), ?_⟩
        have hsp := spoil_few (s := s) (off := off) (show metal < t.c from of_decide_eq_true h2)
        rw [show aftN s off metal t = 0 from if_pos hsp, hsp]; exact .refl _
    · refine k_exit ?_
      refine k_seq ?_
      refine k_region ?_   -- region 11 outright.go:98
      refine o_move rfl ?_
      refine o_assign rfl ?_
      refine o_assign rfl ?_
      refine o_nil ?_
      refine k_ret ?_
      refine ⟨.inr rfl, _, .cons _ _ _ _ (.tmp 8) (.cons _ _ _ _ (.tmp 9) .nil), ?_⟩
      have hjw : j = widM t := by
        have := show ¬ t.a + (j : Int) ≤ t.b from of_decide_eq_false h1
        unfold widM at hkj ⊢; omega
      have hsp : spoilT s off metal t = false := by
        have hc := hA.2 (by unfold widM at hjw; omega)
        unfold spoilT
        rw [← hjw, hA.1, decide_eq_false (by omega)]; rfl
      rw [show aftN s off metal t = hitT s off metal t from if_neg (by rw [hsp]; exact fun h => by cases h), hsp, show hitT s off metal t = cntL true (hitL (recT s) off metal t j) by rw [hjw]; rfl]; exact .refl _
  · exact ⟨0, rfl, aft_zero _ _ _ _, rfl, .cons rfl (.cons rfl (.cons rfl (.cons rfl (.cons rfl (.cons rfl (.cons rfl (.cons (congrArg (U.int .i64) (by simp)) (.nil rfl))))))))⟩

-- 39 saron/saronref00.Band params [3, 3] pure True
noncomputable def b39 : Code := (Try.f39.body).getD .skip
theorem body39 : bodyOf Try.prog 39 = some (8, b39, [.cell 4 24]) := by kernel_rfl
theorem pure39 : pureFn Try.prog 39 = true := by kernel_rfl
set_option maxHeartbeats 4000000 in
theorem ret39 (hi : Off is) (a b : Int) : RetP Try.prog is orc 39 [.int .i64 a, .int .i64 b] (spanU a b) := by
  refine ret_of body39 pure39 (hi 39 (by decide)) rfl rfl (dat_l2 (.int _ _ _) (.int _ _ _)) (.inl (dat_span _ _ _)) ?_
  refine k_seq ?_
  refine k_region ?_   -- region 0 base.go:46
  refine o_alloc rfl ze24 ?_
  refine o_nil ?_
  refine k_seq ?_
  refine k_region ?_   -- region 1 base.go:46
  refine o_move rfl ?_
  refine o_move rfl ?_
  refine o_build rfl ze24 pl24 rfl rfl ?_
  refine o_storeN rfl rfl sh24 rfl rfl rfl rfl rfl ?_
  refine o_nil ?_
  refine k_ret ?_
  refine ⟨.inr rfl, _, .cons _ _ _ _ (.cellN 4 24 _ _ _ _ rfl rfl sh24 rfl) .nil, ?_⟩
  exact .refl _

-- 11 saron/saronlaw03.RaspSingle params [27, 38, 28] pure True
noncomputable def b11 : Code := (Try.f11.body).getD .skip
theorem body11 : bodyOf Try.prog 11 = some (113, b11, [.tmp 6]) := by kernel_rfl
theorem pure11 : pureFn Try.prog 11 = true := by kernel_rfl
set_option maxHeartbeats 4000000 in
theorem ret11n (hi : Off is) {s : Shop} (hv : checkR s.tools s.keys s.flo s.fhi ≠ 0) (l : List Int) (a b : Int) (r20 : RetP Try.prog is orc 20 [] (.bool true)) : RetP Try.prog is orc 11 [s.u, .lst .ro 1 (intsU l), .agg [.int .i64 a, .int .i64 b]] (.bool true) := by
  refine ret_of body11 pure11 (hi 11 (by decide)) rfl rfl (dat_l3 (dat_shop s 5) (dat_ints 6 .ro (fun h => by cases h) 1 l) (dat_span _ _ _)) (.inl (.bool _ _)) ?_
  refine k_seq ?_
  refine k_region ?_   -- region 0 outright.go:219
  refine o_box rfl rfl ?_
  refine o_box rfl rfl ?_
  refine o_assign rfl ?_
  refine o_nil ?_
  refine k_seq ?_
  refine k_seq ?_
  refine k_region ?_   -- region 1 outright.go:220
  first | refine o_loadN rfl rfl rfl sh27 rfl ?_ | refine o_loadRN rfl rfl sh27 rfl ?_
  refine o_call rfl (ret32n hi hv) (.lrefl _) ?_
  refine o_not rfl rfl ?_
  refine o_nil ?_
  refine k_cond rfl (fun _ => ?_) (fun h => absurd (h.symm.trans rfl) (by decide))
  refine k_seq ?_
  refine k_region ?_   -- region 2 outright.go:221
  refine o_call rfl (r20) (.lrefl _) ?_
  refine o_assign rfl ?_
  refine o_nil ?_
  refine k_ret ?_
  refine ⟨.inr rfl, _, .cons _ _ _ _ (.tmp 6) .nil, ?_⟩
  exact .refl _

theorem by52 : Program.bytesOf Try.prog 52 = 24 := by kernel_rfl
theorem ze27 : zeroL Try.prog 27 = some ((.cons .nils (.cons (.int .i64 0) (.cons (.int .i64 0) (.cons .nils .nil)))) : V) := by kernel_rfl
theorem ap22_22 : AppT Try.prog 22 22 52 3 24 ((.cons (.int .i64 0) (.cons (.int .i64 0) (.cons (.int .i64 0) .nil))) : V) := ⟨ty22, ⟨_, ty22⟩, cl52, by decide, by52, ze52, rfl⟩
set_option maxHeartbeats 4000000 in
theorem ret11a (hi : Off is) {s : Shop} (hk : SOk s) (l : List Int) (a b : Int) (r20 : RetP Try.prog is orc 20 [] (.bool true)) : RetP Try.prog is orc 11 [s.u, .lst .ro 1 (intsU l), .agg [.int .i64 a, .int .i64 b]] (.bool true) := by
  refine ret_of body11 pure11 (hi 11 (by decide)) rfl rfl (dat_l3 (dat_shop s 5) (dat_ints 6 .ro (fun h => by cases h) 1 l) (dat_span _ _ _)) (.inl (.bool _ _)) ?_
  refine k_seq ?_
  refine k_region ?_   -- region 0 outright.go:219
  refine o_box rfl rfl ?_
  refine o_box rfl rfl ?_
  refine o_assign rfl ?_
  refine o_nil ?_
  refine k_seq ?_
  refine k_seq ?_
  refine k_region ?_   -- region 1 outright.go:220
  first | refine o_loadN rfl rfl rfl sh27 rfl ?_ | refine o_loadRN rfl rfl sh27 rfl ?_
  refine o_call rfl (ret32 hi hk) (.lrefl _) ?_
  refine o_not rfl rfl ?_
  refine o_nil ?_
  refine k_cond rfl (fun h => absurd (h.symm.trans rfl) (by decide)) (fun _ => ?_)
  refine k_skip ?_
  refine k_seq ?_
  refine k_region ?_   -- region 3 outright.go:223
  first | refine o_loadN rfl rfl rfl sh27 rfl ?_ | refine o_loadRN rfl rfl sh27 rfl ?_
  refine o_alloc rfl ze27 ?_
  refine o_storeN rfl rfl sh27 rfl rfl rfl rfl rfl ?_
  refine o_nil ?_
  refine k_seq ?_
  refine k_region ?_   -- region 4 outright.go:224
  first | refine o_faddr rfl rfl fld27_0 ?_ | refine o_faddrR rfl rfl fld27_0 ?_
  refine o_store1 rfl rfl sh22 rfl rfl ?_
  refine o_nil ?_
  refine k_seq ?_
  refine k_seq ?_
  refine k_region ?_   -- region 5 outright.go:225
  refine o_assign rfl ?_
  refine o_nil ?_
  refine k_block ?_
  -- LOOP 1
  refine k_loop (fun k st => ∃ (i : Nat) (e : List SB), k + i = s.tools.length ∧ st.st = [SB.box s.cs, SB.box [.int .i64 a, .int .i64 b], SB.box [accT (sgl s.tools l i), .int .i64 s.flo, .int .i64 s.fhi, .lst .ro 3 (trisU s.keys)]] ++ e ∧ Holds st [(1, .lst .ro 1 (intsU l)), (3, .box 0 0), (5, .box 1 0), (7, .box 2 0), (8, .int .i64 i)]) (fun k st hI => ?_) s.tools.length _ ?_
  · obtain ⟨i, e, hki, hst, hs⟩ := hI
    generalize hY : [SB.box s.cs, SB.box [.int .i64 a, .int .i64 b], SB.box [accT (sgl s.tools l i), .int .i64 s.flo, .int .i64 s.fhi, .lst .ro 3 (trisU s.keys)]] ++ e = Y at hst
    have hY0 : Y[0]? = some (.box s.cs) := by rw [← hY]; rfl
    have hY1 : Y[1]? = some (.box [.int .i64 a, .int .i64 b]) := by rw [← hY]; rfl
    have hY2 : Y[2]? = some (.box [accT (sgl s.tools l i), .int .i64 s.flo, .int .i64 s.fhi, .lst .ro 3 (trisU s.keys)]) := by rw [← hY]; rfl
    refine k_gen _ _ hs hst fun fr => ?_
    refine k_seq ?_
    refine k_seq ?_
    refine k_region ?_   -- region 6 outright.go:225
    refine o_move rfl ?_
    first | refine o_faddr rfl rfl fld27_0 ?_ | refine o_faddrR rfl rfl fld27_0 ?_
    refine o_load1 rfl rfl (cs := s.cs) hY0 sh22 rfl ?_
    refine o_len rfl ty22 rfl rfl ?_
    refine o_lss rfl rfl rfl ?_
    refine o_nil ?_
    refine k_cond rfl (fun h1 => ?_) (fun h1 => ?_)   -- slot 30
    · have hil : i < s.tools.length := by
        have := of_decide_eq_true h1
        simp at this; omega
      obtain ⟨t, hq⟩ : ∃ t, s.tools[i]? = some t := ⟨s.tools[i], List.getElem?_eq_getElem hil⟩
      have hb := hk.tools t (List.mem_of_getElem? hq)
      have hnt := hk.nt
      have hsl := sgl_len s.tools l i (by omega)
      have hss := sgl_succ (l := l) hq
      refine k_skip ?_
      refine k_seq ?_
      refine k_block ?_
      refine k_seq ?_
      refine k_region ?_   -- region 8 outright.go:226
      first | refine o_faddr rfl rfl fld27_0 ?_ | refine o_faddrR rfl rfl fld27_0 ?_
      refine o_load1 rfl rfl (cs := s.cs) hY0 sh22 rfl ?_
      refine o_move rfl ?_
      refine o_idx (u := t.u) rfl ty22 rfl rfl (Int.natCast_nonneg i) (by simp [hq]) cl52 ?_
      refine o_loadRN rfl rfl sh52 rfl ?_
      refine o_alloc rfl ze52 ?_
      refine o_storeN rfl (at_new _ _) sh52 rfl rfl rfl rfl rfl ?_
      refine o_nil ?_
      have hset : ∀ q q' : SB, (Y ++ [q]).set Y.length q' = Y ++ [q'] := fun q q' => set_end _ _ _
      refine k_gen [(1, .lst .ro 1 (intsU l)), (3, .box 0 0), (5, .box 1 0), (7, .box 2 0), (8, .int .i64 i), (9, .box Y.length 0)] (Y ++ [.box [.int .i64 t.a, .int .i64 t.b, .int .i64 t.c]]) (.cons rfl (.cons rfl (.cons rfl (.cons rfl (.cons rfl (.cons rfl (.nil rfl))))))) (by show (Y ++ [SB.box _]).set Y.length (SB.box _) = _; exact hset _ _) fun fr => ?_
      have hYt : (Y ++ [SB.box [.int .i64 t.a, .int .i64 t.b, .int .i64 t.c]])[Y.length]? = some (SB.box [.int .i64 t.a, .int .i64 t.b, .int .i64 t.c]) := at_new _ _
      refine k_seq ?_
      refine k_draw [.plain, .read true, .plain, .plain, .read false, .plain, .plain] (by kernel_rfl) (by kernel_rfl) (by kernel_rfl) ?_   -- region 9
      first | refine d_plain (o_faddr rfl rfl fld52_0 (o_nil rfl)) ?_ | refine d_plain (o_faddrR rfl rfl fld52_0 (o_nil rfl)) ?_
      refine d_load rfl (o_loadN rfl rfl hYt sh24 rfl (o_nil rfl)) ?_
      refine d_plain (o_move rfl (o_nil rfl)) ?_
      refine d_plain (o_move rfl (o_nil rfl)) ?_
      refine d_callR rfl (ret37 hi l i) (.int _ _) (.lrefl _) ?_
      refine d_plain (o_call rfl (ret36 hi t.a t.b (nthI l i) (by omega)) (.lrefl _) (o_nil rfl)) ?_
      refine d_plain (o_assign rfl (o_nil rfl)) ?_
      refine d_nil ?_
      refine k_seq ?_
      refine k_region ?_   -- region 10 outright.go:228
      refine o_move rfl ?_
      refine o_move rfl ?_
      refine o_call rfl (ret39 hi _ _) (.lrefl _) ?_
      first | refine o_faddr rfl rfl fld52_0 ?_ | refine o_faddrR rfl rfl fld52_0 ?_
      refine o_storeN rfl hYt sh24 rfl rfl rfl rfl rfl ?_
      refine o_nil ?_
      refine k_gen [(1, .lst .ro 1 (intsU l)), (3, .box 0 0), (5, .box 1 0), (7, .box 2 0), (8, .int .i64 i), (9, .box Y.length 0)] (Y ++ [.box [.int .i64 (drawI t.a t.b (nthI l i)), .int .i64 (drawI t.a t.b (nthI l i)), .int .i64 t.c]]) (.cons rfl (.cons rfl (.cons rfl (.cons rfl (.cons rfl (.cons rfl (.nil rfl))))))) (by show (Y ++ [SB.box _]).set Y.length (SB.box _) = _; exact hset _ _) fun fr => ?_
      have hYq : (Y ++ [SB.box [.int .i64 (drawI t.a t.b (nthI l i)), .int .i64 (drawI t.a t.b (nthI l i)), .int .i64 t.c]])[Y.length]? = some (SB.box [.int .i64 (drawI t.a t.b (nthI l i)), .int .i64 (drawI t.a t.b (nthI l i)), .int .i64 t.c]) := at_new _ _
      have hY2' : (Y ++ [SB.box [.int .i64 (drawI t.a t.b (nthI l i)), .int .i64 (drawI t.a t.b (nthI l i)), .int .i64 t.c]])[2]? = some (.box [accT (sgl s.tools l i), .int .i64 s.flo, .int .i64 s.fhi, .lst .ro 3 (trisU s.keys)]) := at_pre hY2
      have hfin : (Y ++ [SB.box [.int .i64 (drawI t.a t.b (nthI l i)), .int .i64 (drawI t.a t.b (nthI l i)), .int .i64 t.c]]).set 2 (.box [.lst .own 3 (trisU (sgl s.tools l i) ++ [.agg [.int .i64 (drawI t.a t.b (nthI l i)), .int .i64 (drawI t.a t.b (nthI l i)), .int .i64 t.c]]), .int .i64 s.flo, .int .i64 s.fhi, .lst .ro 3 (trisU s.keys)]) = [SB.box s.cs, SB.box [.int .i64 a, .int .i64 b], SB.box [accT (sgl s.tools l (i + 1)), .int .i64 s.flo, .int .i64 s.fhi, .lst .ro 3 (trisU s.keys)]] ++ (e ++ [SB.box [.int .i64 (drawI t.a t.b (nthI l i)), .int .i64 (drawI t.a t.b (nthI l i)), .int .i64 t.c]]) := by
        rw [hss, accT_snoc, ← hY]; rfl
      refine k_region ?_
      refine o_faddr rfl rfl fld27_0 ?_
      generalize sgl s.tools l i = L at hY2' hfin hsl
      cases L with
      | nil =>
        refine o_load1 rfl rfl hY2' sh22 rfl ?_
        refine o_loadN rfl rfl hYq sh52 rfl ?_
        refine o_lit (es := [.agg [.int .i64 (drawI t.a t.b (nthI l i)), .int .i64 (drawI t.a t.b (nthI l i)), .int .i64 t.c]]) rfl ty22 ze52 cl52 rfl rfl rfl rfl rfl rfl rfl rfl ?_
        refine o_appendF rfl ap22_22 rfl rfl (by simp) (by simp) (by simp [flatU, cellsU, oneU]) (by simp) ?_
        refine o_faddr rfl rfl fld27_0 ?_
        refine o_store1 rfl hY2' sh22 rfl rfl ?_
        refine o_nil ?_
        refine k_region ?_
        refine o_move rfl ?_
        refine o_add rfl rfl rfl (by unfold I64; omega) ?_
        refine o_assign rfl ?_
        refine o_nil ?_
        exact ⟨k - 1, by omega, i + 1, e ++ [SB.box [.int .i64 (drawI t.a t.b (nthI l i)), .int .i64 (drawI t.a t.b (nthI l i)), .int .i64 t.c]], by omega, hfin, (.cons rfl (.cons rfl (.cons rfl (.cons rfl (.cons rfl (.nil rfl))))))⟩
      | cons y L =>
        refine o_load1 rfl rfl hY2' sh22 rfl ?_
        refine o_loadN rfl rfl hYq sh52 rfl ?_
        refine o_lit (es := [.agg [.int .i64 (drawI t.a t.b (nthI l i)), .int .i64 (drawI t.a t.b (nthI l i)), .int .i64 t.c]]) rfl ty22 ze52 cl52 rfl rfl rfl rfl rfl rfl rfl rfl ?_
        refine o_appendC 2 0 rfl ap22_22 rfl hY2' rfl rfl (by simp) (by simp) (by simp [flatU, cellsU, oneU]) (by simp at hsl ⊢; omega) ?_
        refine o_faddr rfl rfl fld27_0 ?_
        refine o_store1 rfl (cs := [.lst .ro 3 (trisU (y :: L)), .int .i64 s.flo, .int .i64 s.fhi, .lst .ro 3 (trisU s.keys)]) (List.getElem?_set_self (List.getElem?_eq_some_iff.1 hY2').1) sh22 rfl rfl ?_
        refine o_nil ?_
        refine k_region ?_
        refine o_move rfl ?_
        refine o_add rfl rfl rfl (by unfold I64; omega) ?_
        refine o_assign rfl ?_
        refine o_nil ?_
        exact ⟨k - 1, by omega, i + 1, e ++ [SB.box [.int .i64 (drawI t.a t.b (nthI l i)), .int .i64 (drawI t.a t.b (nthI l i)), .int .i64 t.c]], by omega, (by show List.set (List.set _ 2 _) 2 _ = _; rw [List.set_set]; exact hfin), (.cons rfl (.cons rfl (.cons rfl (.cons rfl (.cons rfl (.nil rfl))))))⟩
    · have hi3 : i = s.tools.length := by
        have := of_decide_eq_false h1
        simp at this; omega
      subst hi3
      have hx := sg_ok hk l
      have b1 := cho_b s false (a % 121 - 60) (b % 31)
      have b2 := cho_b (sgS s l) false (a % 121 - 60) (b % 31)
      have hle := cho_less hk l (a % 121 - 60) (b % 31)
      have g84 : decide (nxn (cho (sgS s l) true (a % 121 - 60) (b % 31)) = unN (cho (sgS s l) false (a % 121 - 60) (b % 31)).2) = true := decide_eq_true (by rw [cho_single]; rfl)
      have g89 : decide (nxe (cho (sgS s l) true (a % 121 - 60) (b % 31)) = unE (cho (sgS s l) false (a % 121 - 60) (b % 31)).2) = true := decide_eq_true (by rw [cho_single]; rfl)
      have h95 : decide (unE (cho (sgS s l) false (a % 121 - 60) (b % 31)).2 ≠ 0) = false → (cho (sgS s l) false (a % 121 - 60) (b % 31)).2 ≠ 31 ∧ (cho s false (a % 121 - 60) (b % 31)).2 ≠ 31 := fun h => by
        have h := of_decide_eq_false h
        have h0 : (cho (sgS s l) false (a % 121 - 60) (b % 31)).2 ≠ 31 := fun h31 => h (by unfold unE; rw [if_pos h31]; decide)
        exact ⟨h0, by have := b2.2.1; omega⟩
      have g95 : decide (unE (cho (sgS s l) false (a % 121 - 60) (b % 31)).2 ≠ 0) = false → decide (unE (cho s false (a % 121 - 60) (b % 31)).2 = 0) = true := fun h => decide_eq_true (if_neg (h95 h).2)
      have g102 : decide (unE (cho (sgS s l) false (a % 121 - 60) (b % 31)).2 ≠ 0) = false → decide (unN (cho s false (a % 121 - 60) (b % 31)).2 ≤ unN (cho (sgS s l) false (a % 121 - 60) (b % 31)).2) = true := fun h => decide_eq_true (by
        unfold unN; rw [if_neg (h95 h).1, if_neg (h95 h).2]; exact hle)
      have g110 : decide (unE (cho s false (a % 121 - 60) (b % 31)).2 = 0) = false → decide (unE (cho s false (a % 121 - 60) (b % 31)).2 = 4) = true := fun h => decide_eq_true (by
        have h := of_decide_eq_false h
        by_cases h31 : (cho s false (a % 121 - 60) (b % 31)).2 = 31
        · exact if_pos h31
        · exact absurd (if_neg h31) h)
      refine k_exit ?_
      refine k_seq ?_
      refine k_region ?_   -- region 12 outright.go:231
      refine o_loadN rfl rfl hY1 sh28 rfl ?_
      refine o_call rfl (ret33 hi a b) (.lrefl _) ?_
      refine o_move rfl ?_
      refine o_extract rfl rfl rfl ?_
      refine o_extract rfl rfl rfl ?_
      refine o_assign rfl ?_
      refine o_assign rfl ?_
      refine o_nil ?_
      refine k_seq ?_
      refine k_region ?_   -- region 13 outright.go:232
      refine o_loadN rfl rfl (cs := [accT (sgl s.tools l s.tools.length), .int .i64 s.flo, .int .i64 s.fhi, .lst .ro 3 (trisU s.keys)]) hY2 sh27 rfl ?_
      refine o_move rfl ?_
      refine o_move rfl ?_
      refine o_call rfl (ret14g hi hx (st_off a) (st_met b)) (.lcons _ _ _ _ (.agg _ _ (.lcons _ _ _ _ (uw_accT _) (.lrefl _))) (.lrefl _)) ?_
      refine o_move rfl ?_
      refine o_extract rfl rfl rfl ?_
      refine o_extract rfl rfl rfl ?_
      refine o_extract rfl rfl rfl ?_
      refine o_assign rfl ?_
      refine o_assign rfl ?_
      refine o_assign rfl ?_
      refine o_nil ?_
      refine k_seq ?_
      refine k_region ?_   -- region 14 outright.go:233
      refine o_loadN rfl rfl (cs := [accT (sgl s.tools l s.tools.length), .int .i64 s.flo, .int .i64 s.fhi, .lst .ro 3 (trisU s.keys)]) hY2 sh27 rfl ?_
      refine o_move rfl ?_
      refine o_move rfl ?_
      refine o_call rfl (ret18 hi hx (st_off a) (st_met b)) (.lcons _ _ _ _ (.agg _ _ (.lcons _ _ _ _ (uw_accT _) (.lrefl _))) (.lrefl _)) ?_
      refine o_move rfl ?_
      refine o_extract rfl rfl rfl ?_
      refine o_extract rfl rfl rfl ?_
      refine o_assign rfl ?_
      refine o_assign rfl ?_
      refine o_nil ?_
      refine k_seq ?_
      refine k_region ?_   -- region 15 outright.go:234
      refine o_loadN rfl rfl hY0 sh27 rfl ?_
      refine o_move rfl ?_
      refine o_move rfl ?_
      refine o_call rfl (ret18 hi hk (st_off a) (st_met b)) (.lrefl _) ?_
      refine o_move rfl ?_
      refine o_extract rfl rfl rfl ?_
      refine o_extract rfl rfl rfl ?_
      refine o_assign rfl ?_
      refine o_assign rfl ?_
      refine o_nil ?_
      refine k_seq ?_
      refine k_region ?_   -- region 16 outright.go:235
      refine o_move rfl ?_
      refine o_move rfl ?_
      refine o_eql rfl rfl rfl ?_
      refine o_move rfl ?_
      refine o_guard rfl rfl rfl rfl (fun _ => ?_) (fun h => absurd (h.symm.trans g84) (by decide))
      refine o_move rfl ?_
      refine o_guard rfl rfl rfl rfl (fun _ => ?_) (fun h => absurd (h.symm.trans g84) (by decide))
      refine o_move rfl ?_
      refine o_guard rfl rfl rfl rfl (fun _ => ?_) (fun h => absurd (h.symm.trans g84) (by decide))
      refine o_eql rfl rfl rfl ?_
      refine o_pickT rfl rfl g84 ?_
      refine o_move rfl ?_
      refine o_guard rfl rfl rfl rfl (fun _ => ?_) (fun h => absurd (h.symm.trans g89) (by decide))
      refine o_move rfl ?_
      refine o_guard rfl rfl rfl rfl (fun _ => ?_) (fun h => absurd (h.symm.trans g89) (by decide))
      refine o_neq rfl rfl rfl ?_
      refine o_guard rfl rfl rfl rfl (fun _ => ?_) (fun h => absurd (h.symm.trans g89) (by decide))
      refine o_move rfl ?_
      refine o_guard rfl rfl rfl rfl (fun h2 => ?_) (fun h2 => ?_)   -- slot 92
      · refine o_move rfl ?_
        refine o_guard rfl rfl rfl rfl (fun _ => ?_) (fun h => by rw [h2] at h; cases h)
        refine o_eql rfl rfl rfl ?_
        refine o_guard rfl rfl rfl rfl (fun _ => ?_) (fun h => by rw [h2] at h; cases h)
        refine o_move rfl ?_
        refine o_guard rfl rfl rfl rfl (fun _ => ?_) (fun h => absurd (h.symm.trans (g95 (by assumption))) (by decide))
        refine o_move rfl ?_
        refine o_guard rfl rfl rfl rfl (fun _ => ?_) (fun h => absurd (h.symm.trans (g95 (by assumption))) (by decide))
        refine o_move rfl ?_
        refine o_guard rfl rfl rfl rfl (fun _ => ?_) (fun h => absurd (h.symm.trans (g95 (by assumption))) (by decide))
        refine o_leq rfl rfl rfl ?_
        refine o_guard rfl rfl rfl rfl (fun _ => ?_) (fun h => by rw [h2] at h; cases h)
        refine o_pickT rfl rfl (g95 (by assumption)) ?_
        refine o_guard rfl rfl rfl rfl (fun _ => ?_) (fun h => absurd (h.symm.trans g89) (by decide))
        refine o_pickF rfl rfl h2 ?_
        refine o_pickT rfl rfl g89 ?_
        refine o_move rfl ?_
        refine o_guard rfl rfl rfl rfl (fun _ => ?_) (fun h => absurd (h.symm.trans (show _ = true from by first | rfl | exact g102 (by assumption))) (by decide))
        refine o_move rfl ?_
        refine o_guard rfl rfl rfl rfl (fun _ => ?_) (fun h => absurd (h.symm.trans (show _ = true from by first | rfl | exact g102 (by assumption))) (by decide))
        refine o_eql rfl rfl rfl ?_
        refine o_guard rfl rfl rfl rfl (fun _ => ?_) (fun h => absurd (h.symm.trans (show _ = true from by first | rfl | exact g102 (by assumption))) (by decide))
        refine o_move rfl ?_
        refine o_guard rfl rfl rfl rfl (fun h3 => ?_) (fun h3 => ?_)   -- slot 105
        · refine o_move rfl ?_
          refine o_guard rfl rfl rfl rfl (fun _ => ?_) (fun h => by rw [h3] at h; cases h)
          refine o_eql rfl rfl rfl ?_
          refine o_guard rfl rfl rfl rfl (fun _ => ?_) (fun h => absurd (h.symm.trans (show _ = true from by first | rfl | exact g102 (by assumption))) (by decide))
          refine o_pickF rfl rfl h3 ?_
          refine o_pickT rfl rfl (show _ = true from by first | rfl | exact g102 (by assumption)) ?_
          refine o_move rfl ?_
          refine o_guard rfl rfl rfl rfl (fun _ => ?_) (fun h => absurd (h.symm.trans (show _ = true from by first | rfl | exact g110 (by assumption))) (by decide))
          refine o_call rfl (r20) (.lrefl _) ?_
          refine o_pickT rfl rfl (show _ = true from by first | rfl | exact g110 (by assumption)) ?_
          refine o_assign rfl ?_
          refine o_nil ?_
          refine k_ret ?_
          refine ⟨.inr rfl, _, .cons _ _ _ _ (.tmp 6) .nil, ?_⟩
          exact .refl _
        · refine o_guard rfl rfl rfl rfl (fun h => by rw [h3] at h; cases h) (fun _ => ?_)
          refine o_guard rfl rfl rfl rfl (fun _ => ?_) (fun h => absurd (h.symm.trans (show _ = true from by first | rfl | exact g102 (by assumption))) (by decide))
          refine o_pickT rfl rfl h3 ?_
          refine o_pickT rfl rfl (show _ = true from by first | rfl | exact g102 (by assumption)) ?_
          refine o_move rfl ?_
          refine o_guard rfl rfl rfl rfl (fun _ => ?_) (fun h => by cases h)
          refine o_call rfl (r20) (.lrefl _) ?_
          refine o_pickT rfl rfl rfl ?_
          refine o_assign rfl ?_
          refine o_nil ?_
          refine k_ret ?_
          refine ⟨.inr rfl, _, .cons _ _ _ _ (.tmp 6) .nil, ?_⟩
          exact .refl _
      · refine o_guard rfl rfl rfl rfl (fun h => by rw [h2] at h; cases h) (fun _ => ?_)
        refine o_guardX rfl rfl rfl rfl (fun h => by rw [h2] at h; cases h) (fun _ => ?_)
        refine o_dead rfl rfl rfl rfl ?_
        refine o_dead rfl rfl rfl rfl ?_
        refine o_dead rfl rfl rfl rfl ?_
        refine o_guard rfl rfl rfl rfl (fun h => by rw [h2] at h; cases h) (fun _ => ?_)
        refine o_guard rfl rfl rfl rfl (fun _ => ?_) (fun h => absurd (h.symm.trans g89) (by decide))
        refine o_pickT rfl rfl h2 ?_
        refine o_pickT rfl rfl g89 ?_
        refine o_move rfl ?_
        refine o_guard rfl rfl rfl rfl (fun _ => ?_) (fun h => by cases h)
        refine o_move rfl ?_
        refine o_guard rfl rfl rfl rfl (fun _ => ?_) (fun h => by cases h)
        refine o_eql rfl rfl rfl ?_
        refine o_guard rfl rfl rfl rfl (fun _ => ?_) (fun h => by cases h)
        refine o_move rfl ?_
        refine o_guard rfl rfl rfl rfl (fun h4 => ?_) (fun h4 => ?_)   -- slot 105
        · refine o_move rfl ?_
          refine o_guard rfl rfl rfl rfl (fun _ => ?_) (fun h => by rw [h4] at h; cases h)
          refine o_eql rfl rfl rfl ?_
          refine o_guard rfl rfl rfl rfl (fun _ => ?_) (fun h => by cases h)
          refine o_pickF rfl rfl h4 ?_
          refine o_pickT rfl rfl rfl ?_
          refine o_move rfl ?_
          refine o_guard rfl rfl rfl rfl (fun _ => ?_) (fun h => absurd (h.symm.trans (show _ = true from by first | rfl | exact g110 (by assumption))) (by decide))
          refine o_call rfl (r20) (.lrefl _) ?_
          refine o_pickT rfl rfl (show _ = true from by first | rfl | exact g110 (by assumption)) ?_
          refine o_assign rfl ?_
          refine o_nil ?_
          refine k_ret ?_
          refine ⟨.inr rfl, _, .cons _ _ _ _ (.tmp 6) .nil, ?_⟩
          exact .refl _
        · refine o_guard rfl rfl rfl rfl (fun h => by rw [h4] at h; cases h) (fun _ => ?_)
          refine o_guard rfl rfl rfl rfl (fun _ => ?_) (fun h => by cases h)
          refine o_pickT rfl rfl h4 ?_
          refine o_pickT rfl rfl rfl ?_
          refine o_move rfl ?_
          refine o_guard rfl rfl rfl rfl (fun _ => ?_) (fun h => by cases h)
          refine o_call rfl (r20) (.lrefl _) ?_
          refine o_pickT rfl rfl rfl ?_
          refine o_assign rfl ?_
          refine o_nil ?_
          refine k_ret ?_
          refine ⟨.inr rfl, _, .cons _ _ _ _ (.tmp 6) .nil, ?_⟩
          exact .refl _
  · exact ⟨0, [], by omega, rfl, (.cons rfl (.cons rfl (.cons rfl (.cons rfl (.cons rfl (.nil rfl))))))⟩

theorem ret11_all {is : FuncId → Bool} {orc : Known} (hi : Off is) (r20 : RetP Try.prog is orc 20 [] (.bool true)) : ∀ us, ShpAs Try.prog [27, 38, 28] us → RetP Try.prog is orc 11 us (.bool true) := by
  intro us h
  cases h with
  | cons _ _ u us h1 h => cases h with
  | cons _ _ v us h2 h => cases h with
  | cons _ _ w us h3 h =>
  cases h
  obtain ⟨fs, hu⟩ := und_struct (P := Try.prog) (t := 27) 3 (by kernel_rfl)
  unfold ShpA at h1 h2 h3
  rw [hu] at h1
  rw [u38] at h2
  rw [u28] at h3
  obtain ⟨cs, rfl, h1⟩ := h1
  obtain ⟨ds, rfl, h3⟩ := h3
  obtain ⟨s, rfl⟩ := shp_shop h1
  obtain ⟨a, b, rfl⟩ := shp_two h3
  obtain ⟨l, e⟩ := shp_ints h2
  cases e
  by_cases hv : checkR s.tools s.keys s.flo s.fhi = 0
  · exact ret11a hi (ok_chk hv) l a b r20
  · exact ret11n hi hv l a b r20
end Go.Proofs.Ytdahbimllmapkaa.raspSingle
