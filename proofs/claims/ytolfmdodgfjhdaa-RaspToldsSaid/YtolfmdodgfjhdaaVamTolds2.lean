/- The reference's functions and the law, by the logic of trees. -/
import Derived.Test.YtolfmdodgfjhdaaVamTolds1
namespace Go.Proofs.Ytolfmdodgfjhdaa.raspTolds
open Vam
set_option linter.unusedVariables false
set_option linter.unusedSimpArgs false
variable {is : FuncId → Bool} {orc : Known}
theorem dat_int3 (a b c : Int) : ∀ u ∈ [U.int .i64 a, .int .i64 b, .int .i64 c], Dat 8 u := fun u hu => by
  simp only [List.mem_cons, List.not_mem_nil, or_false] at hu
  rcases hu with rfl | rfl | rfl <;> exact .int _ _ _
theorem dat_span1 (a b n : Int) : ∀ u ∈ [U.agg [.int .i64 a, .int .i64 b], .int .i64 n], Dat 8 u := fun u hu => by
  simp only [List.mem_cons, List.not_mem_nil, or_false] at hu
  rcases hu with rfl | rfl
  · exact dat_ints2 _ _ 6
  · exact .int _ _ _
theorem dat_span2 (a b n m : Int) : ∀ u ∈ [U.agg [.int .i64 a, .int .i64 b], .int .i64 n, .int .i64 m], Dat 8 u := fun u hu => by
  simp only [List.mem_cons, List.not_mem_nil, or_false] at hu
  rcases hu with rfl | rfl | rfl
  · exact dat_ints2 _ _ 6
  · exact .int _ _ _
  · exact .int _ _ _
-- 38 saron/saronref00.Sits params [3, 3, 3] pure True
noncomputable def b38 : Code := (Try.f38.body).getD .skip
theorem body38 : bodyOf Try.prog 38 = some (15, b38, [.tmp 6]) := by kernel_rfl
theorem pure38 : pureFn Try.prog 38 = true := by kernel_rfl
theorem ret38 (h38 : is 38 = false) (n lo hi : Int) : RetP Try.prog is orc 38 [.int .i64 n, .int .i64 lo, .int .i64 hi] (.bool (decide (lo ≤ n) && decide (n ≤ hi))) := by
  refine ret_of body38 pure38 h38 rfl rfl (dat_int3 _ _ _) (.inl (.bool _ _)) ?_
  refine k_seq ?_
  refine k_region ?_   -- region 0 base.go:9
  refine o_assign rfl ?_
  refine o_nil ?_
  refine k_seq ?_
  refine k_region ?_   -- region 1 base.go:9
  refine o_move rfl ?_
  refine o_move rfl ?_
  refine o_leq rfl rfl rfl ?_
  refine o_move rfl ?_
  refine o_guard rfl rfl rfl rfl (fun h1 => ?_) (fun h1 => ?_)   -- slot 10
  · refine o_move rfl ?_
    refine o_guard rfl rfl rfl rfl (fun _ => ?_) (fun h => by rw [h1] at h; cases h)
    refine o_move rfl ?_
    refine o_guard rfl rfl rfl rfl (fun _ => ?_) (fun h => by rw [h1] at h; cases h)
    refine o_leq rfl rfl rfl ?_
    refine o_pickT rfl rfl h1 ?_
    refine o_assign rfl ?_
    refine o_nil ?_
    refine k_ret ⟨.inr rfl, _, .cons _ _ _ _ (.tmp 6) .nil, ?_⟩
    rw [h1]; exact .refl _
  · refine o_guard rfl rfl rfl rfl (fun h => by rw [h1] at h; cases h) (fun _ => ?_)
    refine o_guard rfl rfl rfl rfl (fun h => by rw [h1] at h; cases h) (fun _ => ?_)
    refine o_pickF rfl rfl h1 ?_
    refine o_assign rfl ?_
    refine o_nil ?_
    refine k_ret ⟨.inr rfl, _, .cons _ _ _ _ (.tmp 6) .nil, ?_⟩
    rw [h1]; exact .refl _

-- 39 saron/saronref00.Bears params [24, 3] pure True
noncomputable def b39 : Code := (Try.f39.body).getD .skip
theorem body39 : bodyOf Try.prog 39 = some (11, b39, [.tmp 4]) := by kernel_rfl
theorem pure39 : pureFn Try.prog 39 = true := by kernel_rfl
theorem ret39 (h39 : is 39 = false) (h38 : is 38 = false) (a b n : Int) : RetP Try.prog is orc 39 [.agg [.int .i64 a, .int .i64 b], .int .i64 n] (.bool (decide (a ≤ n) && decide (n ≤ b))) := by
  refine ret_of body39 pure39 h39 rfl rfl (dat_span1 _ _ _) (.inl (.bool _ _)) ?_
  refine k_seq ?_
  refine k_region ?_   -- region 0 base.go:49
  refine o_box rfl rfl ?_
  refine o_assign rfl ?_
  refine o_nil ?_
  refine k_seq ?_
  refine k_region ?_   -- region 1 base.go:49
  refine o_move rfl ?_
  first | refine o_faddr rfl rfl fld24_0 ?_ | refine o_faddrR rfl rfl fld24_0 ?_
  first | refine o_load1 rfl rfl rfl sh3 rfl ?_ | refine o_loadR1 rfl rfl sh3 rfl ?_
  first | refine o_faddr rfl rfl fld24_1 ?_ | refine o_faddrR rfl rfl fld24_1 ?_
  first | refine o_load1 rfl rfl rfl sh3 rfl ?_ | refine o_loadR1 rfl rfl sh3 rfl ?_
  refine o_call rfl (ret38 h38 _ _ _) (.lrefl _) ?_
  refine o_assign rfl ?_
  refine o_nil ?_
  refine k_ret ⟨.inr rfl, _, .cons _ _ _ _ (.tmp 4) .nil, ?_⟩
  exact .refl _

-- 57 saron/saronref00.Good params [24, 3, 3] pure True
noncomputable def b57 : Code := (Try.f57.body).getD .skip
theorem body57 : bodyOf Try.prog 57 = some (24, b57, [.tmp 6]) := by kernel_rfl
theorem pure57 : pureFn Try.prog 57 = true := by kernel_rfl
theorem ret57 (h57 : is 57 = false) (a b lo hi : Int) : RetP Try.prog is orc 57 [.agg [.int .i64 a, .int .i64 b], .int .i64 lo, .int .i64 hi] (.bool (decide (lo ≤ a) && decide (a ≤ b) && decide (b ≤ hi))) := by
  refine ret_of body57 pure57 h57 rfl rfl (dat_span2 _ _ _ _) (.inl (.bool _ _)) ?_
  refine k_seq ?_
  refine k_region ?_   -- region 0 base.go:52
  refine o_box rfl rfl ?_
  refine o_assign rfl ?_
  refine o_nil ?_
  refine k_seq ?_
  refine k_region ?_   -- region 1 base.go:53
  refine o_move rfl ?_
  first | refine o_faddr rfl rfl fld24_0 ?_ | refine o_faddrR rfl rfl fld24_0 ?_
  first | refine o_load1 rfl rfl rfl sh3 rfl ?_ | refine o_loadR1 rfl rfl sh3 rfl ?_
  refine o_leq rfl rfl rfl ?_
  refine o_move rfl ?_
  refine o_guard rfl rfl rfl rfl (fun h1 => ?_) (fun h1 => ?_)   -- slot 11
  · first | refine o_faddr rfl rfl fld24_0 ?_ | refine o_faddrR rfl rfl fld24_0 ?_
    refine o_guard rfl rfl rfl rfl (fun _ => ?_) (fun h => by rw [h1] at h; cases h)
    first | refine o_load1 rfl rfl rfl sh3 rfl ?_ | refine o_loadR1 rfl rfl sh3 rfl ?_
    refine o_guard rfl rfl rfl rfl (fun _ => ?_) (fun h => by rw [h1] at h; cases h)
    first | refine o_faddr rfl rfl fld24_1 ?_ | refine o_faddrR rfl rfl fld24_1 ?_
    refine o_guard rfl rfl rfl rfl (fun _ => ?_) (fun h => by rw [h1] at h; cases h)
    first | refine o_load1 rfl rfl rfl sh3 rfl ?_ | refine o_loadR1 rfl rfl sh3 rfl ?_
    refine o_guard rfl rfl rfl rfl (fun _ => ?_) (fun h => by rw [h1] at h; cases h)
    refine o_leq rfl rfl rfl ?_
    refine o_pickT rfl rfl h1 ?_
    refine o_move rfl ?_
    refine o_guard rfl rfl rfl rfl (fun h2 => ?_) (fun h2 => ?_)   -- slot 18
    · first | refine o_faddr rfl rfl fld24_1 ?_ | refine o_faddrR rfl rfl fld24_1 ?_
      refine o_guard rfl rfl rfl rfl (fun _ => ?_) (fun h => by rw [h2] at h; cases h)
      first | refine o_load1 rfl rfl rfl sh3 rfl ?_ | refine o_loadR1 rfl rfl sh3 rfl ?_
      refine o_guard rfl rfl rfl rfl (fun _ => ?_) (fun h => by rw [h2] at h; cases h)
      refine o_move rfl ?_
      refine o_guard rfl rfl rfl rfl (fun _ => ?_) (fun h => by rw [h2] at h; cases h)
      refine o_leq rfl rfl rfl ?_
      refine o_pickT rfl rfl h2 ?_
      refine o_assign rfl ?_
      refine o_nil ?_
      refine k_ret ⟨.inr rfl, _, .cons _ _ _ _ (.tmp 6) .nil, ?_⟩
      rw [h1, h2]; exact .refl _
    · refine o_guard rfl rfl rfl rfl (fun h => by rw [h2] at h; cases h) (fun _ => ?_)
      refine o_guard rfl rfl rfl rfl (fun h => by rw [h2] at h; cases h) (fun _ => ?_)
      refine o_guard rfl rfl rfl rfl (fun h => by rw [h2] at h; cases h) (fun _ => ?_)
      refine o_pickF rfl rfl h2 ?_
      refine o_assign rfl ?_
      refine o_nil ?_
      refine k_ret ⟨.inr rfl, _, .cons _ _ _ _ (.tmp 6) .nil, ?_⟩
      rw [h1, h2]; exact .refl _
  · refine o_guard rfl rfl rfl rfl (fun h => by rw [h1] at h; cases h) (fun _ => ?_)
    refine o_guard rfl rfl rfl rfl (fun h => by rw [h1] at h; cases h) (fun _ => ?_)
    refine o_guard rfl rfl rfl rfl (fun h => by rw [h1] at h; cases h) (fun _ => ?_)
    refine o_guard rfl rfl rfl rfl (fun h => by rw [h1] at h; cases h) (fun _ => ?_)
    refine o_pickF rfl rfl h1 ?_
    refine o_move rfl ?_
    refine o_guard rfl rfl rfl rfl (fun h3 => by cases h3) (fun h3 => ?_)   -- slot 18
    refine o_guard rfl rfl rfl rfl (fun h => by rw [h3] at h; cases h) (fun _ => ?_)
    refine o_guard rfl rfl rfl rfl (fun h => by rw [h3] at h; cases h) (fun _ => ?_)
    refine o_guard rfl rfl rfl rfl (fun h => by rw [h3] at h; cases h) (fun _ => ?_)
    refine o_pickF rfl rfl h3 ?_
    refine o_assign rfl ?_
    refine o_nil ?_
    refine k_ret ⟨.inr rfl, _, .cons _ _ _ _ (.tmp 6) .nil, ?_⟩
    rw [h1]; exact .refl _

def hdOk (t k : List Tri) (lo hi : Int) : Bool := decide (((trisU t).length : Int) ≥ 1) && decide (((trisU t).length : Int) ≤ 4) && (decide (-60 ≤ lo) && decide (lo ≤ hi) && decide (hi ≤ 60)) && decide (((trisU k).length : Int) ≤ 6)
def Tri.ok (q : Tri) (c1 c2 c3 c4 : Int) : Bool := (decide (c1 ≤ q.a) && decide (q.a ≤ q.b) && decide (q.b ≤ c2)) && (decide (c3 ≤ q.c) && decide (q.c ≤ c4))
abbrev toolOk (q : Tri) : Bool := q.ok (-30) 30 1 10
abbrev keyOk (q : Tri) : Bool := q.ok (-60) 60 0 30
abbrev cellsOfShop (t k : List Tri) (lo hi : Int) : List U := [.lst .ro 3 (trisU t), .int .i64 lo, .int .i64 hi, .lst .ro 3 (trisU k)]
theorem more_ok {p : Tri → Bool} {l : List Tri} {n : Nat} {q : Tri} {b w : Bool} (hq : l[n]? = some q) (hb : b = true) (ho : (l.take n).all p = true) (hw : p q = w) : (w = true ∧ b = true ∧ (l.take (n + 1)).all p = true) ∨ (w = false ∧ (b && l.all p) = false) := by
  cases w with
  | true => exact .inl ⟨rfl, hb, all_take hq ho hw⟩
  | false => exact .inr ⟨rfl, by rw [all_not hq hw]; simp⟩
theorem start_ok (b : Bool) (l : List Tri) (p : Tri → Bool) : (b = true ∧ b = true ∧ (l.take 0).all p = true) ∨ (b = false ∧ (b && l.all p) = false) := by
  cases b with
  | true => exact .inl ⟨rfl, rfl, rfl⟩
  | false => exact .inr ⟨rfl, rfl⟩
theorem hd_big {t k : List Tri} {lo hi : Int} (h : hdOk t k lo hi = true) : t.length ≤ 4 ∧ k.length ≤ 6 := by
  unfold hdOk at h
  simp at h
  omega
theorem hd_big2 {t k : List Tri} {lo hi : Int} {b : Bool} (h : (hdOk t k lo hi && b) = true) : t.length ≤ 4 ∧ k.length ≤ 6 := hd_big (by cases hh : hdOk t k lo hi with | true => rfl | false => rw [hh] at h; cases h)
noncomputable def b18 : Code := (Try.f18.body).getD .skip
theorem body18 : bodyOf Try.prog 18 = some (81, b18, [.tmp 2]) := by kernel_rfl
theorem pure18 : pureFn Try.prog 18 = true := by kernel_rfl
def refCheckR (t k : List Tri) (lo hi : Int) : Int := if hdOk t k lo hi && t.all toolOk && k.all keyOk then 0 else 30
theorem ret18 (h18 : is 18 = false) (h57 : is 57 = false) (h38 : is 38 = false) (t k : List Tri) (lo hi : Int) : RetP Try.prog is orc 18 [shopU (trisU t) (trisU k) lo hi] (.int .i64 (refCheckR t k lo hi)) := by
  refine ret_of body18 pure18 h18 rfl rfl (dat_one (dat_shop t k lo hi 5)) (.inl (.int _ _ _)) ?_
  have hlt : (trisU t).length = t.length := by simp
  have hlk : (trisU k).length = k.length := by simp
  refine k_seq ?_
  refine k_region ?_   -- region 0 ref.go:12
  refine o_box rfl rfl ?_
  refine o_assign rfl ?_
  refine o_nil ?_
  refine k_cut (fun s => s.st[0]? = some (.box (cellsOfShop t k lo hi)) ∧ Holds s [(1, .box 0 0), (3, .bool (hdOk t k lo hi))]) ?_ fun s1 hM => ?_
  · refine k_region ?_   -- region 1 ref.go:13
    refine o_faddr rfl rfl fld27_0 ?_
    refine o_load1 rfl rfl rfl sh22 rfl ?_
    refine o_len rfl ty22 rfl rfl ?_
    refine o_geq rfl rfl rfl ?_
    refine o_move rfl ?_
    refine o_guard rfl rfl rfl rfl (fun h1 => ?_) (fun h1 => ?_)   -- slot 10
    · refine o_faddr rfl rfl fld27_0 ?_
      refine o_guard rfl rfl rfl rfl (fun _ => ?_) (fun h => absurd ((h1).symm.trans h) (by decide))
      refine o_load1 rfl rfl rfl sh22 rfl ?_
      refine o_guard rfl rfl rfl rfl (fun _ => ?_) (fun h => absurd ((h1).symm.trans h) (by decide))
      refine o_len rfl ty22 rfl rfl ?_
      refine o_guard rfl rfl rfl rfl (fun _ => ?_) (fun h => absurd ((h1).symm.trans h) (by decide))
      refine o_leq rfl rfl rfl ?_
      refine o_pickT rfl rfl h1 ?_
      refine o_move rfl ?_
      refine o_guard rfl rfl rfl rfl (fun h2 => ?_) (fun h2 => ?_)   -- slot 16
      · refine o_faddr rfl rfl fld27_1 ?_
        refine o_guard rfl rfl rfl rfl (fun _ => ?_) (fun h => absurd ((h2).symm.trans h) (by decide))
        refine o_loadN rfl rfl rfl sh24 rfl ?_
        refine o_guard rfl rfl rfl rfl (fun _ => ?_) (fun h => absurd ((h2).symm.trans h) (by decide))
        refine o_call rfl (ret57 h57 lo hi (-60) 60) (.lrefl _) ?_
        refine o_pickT rfl rfl h2 ?_
        refine o_move rfl ?_
        refine o_guard rfl rfl rfl rfl (fun h3 => ?_) (fun h3 => ?_)   -- slot 21
        · refine o_faddr rfl rfl fld27_2 ?_
          refine o_guard rfl rfl rfl rfl (fun _ => ?_) (fun h => absurd ((h3).symm.trans h) (by decide))
          refine o_load1 rfl rfl rfl sh25 rfl ?_
          refine o_guard rfl rfl rfl rfl (fun _ => ?_) (fun h => absurd ((h3).symm.trans h) (by decide))
          refine o_len rfl ty25 rfl rfl ?_
          refine o_guard rfl rfl rfl rfl (fun _ => ?_) (fun h => absurd ((h3).symm.trans h) (by decide))
          refine o_leq rfl rfl rfl ?_
          refine o_pickT rfl rfl h3 ?_
          refine o_assign rfl ?_
          refine o_nil ?_
          exact ⟨rfl, rfl, .cons rfl (.cons (congrArg U.bool (by unfold hdOk; rw [h1, h2, h3]; rfl)) (.nil rfl))⟩
        · refine o_guard rfl rfl rfl rfl (fun h => absurd (h.symm.trans h3) (by decide)) (fun _ => ?_)
          refine o_guard rfl rfl rfl rfl (fun h => absurd (h.symm.trans h3) (by decide)) (fun _ => ?_)
          refine o_guard rfl rfl rfl rfl (fun h => absurd (h.symm.trans h3) (by decide)) (fun _ => ?_)
          refine o_pickF rfl rfl h3 ?_
          refine o_assign rfl ?_
          refine o_nil ?_
          exact ⟨rfl, rfl, .cons rfl (.cons (congrArg U.bool (by unfold hdOk; rw [h1, h2, h3]; rfl)) (.nil rfl))⟩
      · refine o_guard rfl rfl rfl rfl (fun h => absurd (h.symm.trans h2) (by decide)) (fun _ => ?_)
        refine o_guard rfl rfl rfl rfl (fun h => absurd (h.symm.trans h2) (by decide)) (fun _ => ?_)
        refine o_pickF rfl rfl h2 ?_
        refine o_move rfl ?_
        refine o_guard rfl rfl rfl rfl (fun h => absurd (h.symm.trans (rfl : false = !true)) (by decide)) (fun _ => ?_)
        refine o_guard rfl rfl rfl rfl (fun h => absurd (h.symm.trans (rfl : false = !true)) (by decide)) (fun _ => ?_)
        refine o_guard rfl rfl rfl rfl (fun h => absurd (h.symm.trans (rfl : false = !true)) (by decide)) (fun _ => ?_)
        refine o_guard rfl rfl rfl rfl (fun h => absurd (h.symm.trans (rfl : false = !true)) (by decide)) (fun _ => ?_)
        refine o_pickF rfl rfl rfl ?_
        refine o_assign rfl ?_
        refine o_nil ?_
        exact ⟨rfl, rfl, .cons rfl (.cons (congrArg U.bool (by unfold hdOk; rw [h1, h2]; rfl)) (.nil rfl))⟩
    · refine o_guard rfl rfl rfl rfl (fun h => absurd (h.symm.trans h1) (by decide)) (fun _ => ?_)
      refine o_guard rfl rfl rfl rfl (fun h => absurd (h.symm.trans h1) (by decide)) (fun _ => ?_)
      refine o_guard rfl rfl rfl rfl (fun h => absurd (h.symm.trans h1) (by decide)) (fun _ => ?_)
      refine o_pickF rfl rfl h1 ?_
      refine o_move rfl ?_
      refine o_guard rfl rfl rfl rfl (fun h => absurd (h.symm.trans (rfl : false = !true)) (by decide)) (fun _ => ?_)
      refine o_guard rfl rfl rfl rfl (fun h => absurd (h.symm.trans (rfl : false = !true)) (by decide)) (fun _ => ?_)
      refine o_guard rfl rfl rfl rfl (fun h => absurd (h.symm.trans (rfl : false = !true)) (by decide)) (fun _ => ?_)
      refine o_pickF rfl rfl rfl ?_
      refine o_move rfl ?_
      refine o_guard rfl rfl rfl rfl (fun h => absurd (h.symm.trans (rfl : false = !true)) (by decide)) (fun _ => ?_)
      refine o_guard rfl rfl rfl rfl (fun h => absurd (h.symm.trans (rfl : false = !true)) (by decide)) (fun _ => ?_)
      refine o_guard rfl rfl rfl rfl (fun h => absurd (h.symm.trans (rfl : false = !true)) (by decide)) (fun _ => ?_)
      refine o_guard rfl rfl rfl rfl (fun h => absurd (h.symm.trans (rfl : false = !true)) (by decide)) (fun _ => ?_)
      refine o_pickF rfl rfl rfl ?_
      refine o_assign rfl ?_
      refine o_nil ?_
      exact ⟨rfl, rfl, .cons rfl (.cons (congrArg U.bool (by unfold hdOk; rw [h1]; rfl)) (.nil rfl))⟩
  · obtain ⟨hst, hs⟩ := hM
    rw [hs.eq]
    refine k_cut (fun s => s.st[0]? = some (.box (cellsOfShop t k lo hi)) ∧ Holds s [(1, .box 0 0), (3, .bool (hdOk t k lo hi && t.all toolOk))]) ?_ fun s2 hM2 => ?_
    · refine k_seq ?_
      refine k_region ?_
      refine o_assign rfl ?_
      refine o_nil ?_
      refine k_block ?_
      refine k_loop (fun j s => ∃ (n : Nat) (v : Bool), j + n = t.length ∧ s.st[0]? = some (.box (cellsOfShop t k lo hi)) ∧ ((v = true ∧ hdOk t k lo hi = true ∧ (t.take n).all toolOk = true) ∨ (v = false ∧ (hdOk t k lo hi && t.all toolOk) = false)) ∧ Holds s [(1, .box 0 0), (3, .bool v), (4, .int .i64 n)]) (fun j s hI => ?_) t.length _ ?_
      · obtain ⟨n, v, hj, hst, hv, hs⟩ := hI
        rw [hs.eq]
        refine k_seq ?_
        refine k_seq ?_
        refine k_region ?_
        refine o_move rfl ?_
        refine o_move rfl ?_
        refine o_guard rfl rfl rfl rfl (fun h4 => ?_) (fun h4 => ?_)
        · have hv1 : hdOk t k lo hi = true ∧ (t.take n).all toolOk = true := by
            rcases hv with hv | hv
            · exact hv.2
            · have h4 : v = true := h4
              rw [h4] at hv; cases hv.1
          have hbig := hd_big hv1.1
          refine o_move rfl ?_
          refine o_guard rfl rfl rfl rfl (fun _ => ?_) (fun h => absurd ((h4).symm.trans h) (by decide))
          refine o_faddr rfl rfl fld27_0 ?_
          refine o_guard rfl rfl rfl rfl (fun _ => ?_) (fun h => absurd ((h4).symm.trans h) (by decide))
          refine o_load1 rfl rfl hst sh22 rfl ?_
          refine o_guard rfl rfl rfl rfl (fun _ => ?_) (fun h => absurd ((h4).symm.trans h) (by decide))
          refine o_len rfl ty22 rfl rfl ?_
          refine o_guard rfl rfl rfl rfl (fun _ => ?_) (fun h => absurd ((h4).symm.trans h) (by decide))
          refine o_lss rfl rfl rfl ?_
          refine o_pickT rfl rfl h4 ?_
          refine o_nil ?_
          refine k_cond rfl (fun h5 => ?_) (fun h5 => ?_)
          · have h3' : n < t.length := by
              have := h5
              simp only [hlt, decide_eq_true_eq] at this
              omega
            obtain ⟨q, hq⟩ : ∃ q, t[n]? = some q := ⟨t[n], List.getElem?_eq_getElem h3'⟩
            refine k_skip ?_
            refine k_seq ?_
            refine k_block ?_
            refine k_region ?_
            refine o_faddr rfl rfl fld27_0 ?_
            refine o_load1 rfl rfl hst sh22 rfl ?_
            refine o_move rfl ?_
            refine o_idx (u := q.u) rfl ty22 rfl rfl (Int.natCast_nonneg n) (by simp [hq]) cl57 ?_
            refine o_faddrR rfl rfl fld57_0 ?_
            refine o_loadRN rfl rfl sh24 rfl ?_
            refine o_call rfl (ret57 h57 q.a q.b (-30) 30) (.lrefl _) ?_
            refine o_move rfl ?_
            refine o_guard rfl rfl rfl rfl (fun h6 => ?_) (fun h6 => ?_)
            · refine o_faddr rfl rfl fld27_0 ?_
              refine o_guard rfl rfl rfl rfl (fun _ => ?_) (fun h => absurd ((h6).symm.trans h) (by decide))
              refine o_load1 rfl rfl hst sh22 rfl ?_
              refine o_guard rfl rfl rfl rfl (fun _ => ?_) (fun h => absurd ((h6).symm.trans h) (by decide))
              refine o_move rfl ?_
              refine o_guard rfl rfl rfl rfl (fun _ => ?_) (fun h => absurd ((h6).symm.trans h) (by decide))
              refine o_idx (u := q.u) rfl ty22 rfl rfl (Int.natCast_nonneg n) (by simp [hq]) cl57 ?_
              refine o_guard rfl rfl rfl rfl (fun _ => ?_) (fun h => absurd ((h6).symm.trans h) (by decide))
              refine o_faddrR rfl rfl fld57_1 ?_
              refine o_guard rfl rfl rfl rfl (fun _ => ?_) (fun h => absurd ((h6).symm.trans h) (by decide))
              refine o_loadR1 rfl rfl sh3 rfl ?_
              refine o_guard rfl rfl rfl rfl (fun _ => ?_) (fun h => absurd ((h6).symm.trans h) (by decide))
              refine o_call rfl (ret38 h38 q.c 1 10) (.lrefl _) ?_
              refine o_pickT rfl rfl h6 ?_
              refine o_assign rfl ?_
              refine o_nil ?_
              refine k_region ?_
              refine o_move rfl ?_
              refine o_add rfl rfl rfl (by unfold I64; omega) ?_
              refine o_assign rfl ?_
              refine o_nil ?_
              refine ⟨j - 1, by omega, n + 1, _, by omega, hst, ?_, .cons rfl (.cons rfl (.cons rfl (.nil rfl)))⟩
              exact more_ok (p := toolOk) hq hv1.1 hv1.2 (by show ((decide ((-30) ≤ q.a) && decide (q.a ≤ q.b) && decide (q.b ≤ 30)) && _) = _; rw [h6]; rfl)
            · refine o_guard rfl rfl rfl rfl (fun h => absurd (h.symm.trans h6) (by decide)) (fun _ => ?_)
              refine o_guard rfl rfl rfl rfl (fun h => absurd (h.symm.trans h6) (by decide)) (fun _ => ?_)
              refine o_guard rfl rfl rfl rfl (fun h => absurd (h.symm.trans h6) (by decide)) (fun _ => ?_)
              refine o_guard rfl rfl rfl rfl (fun h => absurd (h.symm.trans h6) (by decide)) (fun _ => ?_)
              refine o_guard rfl rfl rfl rfl (fun h => absurd (h.symm.trans h6) (by decide)) (fun _ => ?_)
              refine o_guard rfl rfl rfl rfl (fun h => absurd (h.symm.trans h6) (by decide)) (fun _ => ?_)
              refine o_pickF rfl rfl h6 ?_
              refine o_assign rfl ?_
              refine o_nil ?_
              refine k_region ?_
              refine o_move rfl ?_
              refine o_add rfl rfl rfl (by unfold I64; omega) ?_
              refine o_assign rfl ?_
              refine o_nil ?_
              refine ⟨j - 1, by omega, n + 1, _, by omega, hst, ?_, .cons rfl (.cons rfl (.cons rfl (.nil rfl)))⟩
              exact more_ok (p := toolOk) hq hv1.1 hv1.2 (by show ((decide ((-30) ≤ q.a) && decide (q.a ≤ q.b) && decide (q.b ≤ 30)) && _) = _; rw [h6]; rfl)
          · have h3' : n = t.length := by
              have := h5
              simp only [hlt, decide_eq_false_iff_not] at this
              omega
            refine k_exit ?_
            refine ⟨rfl, hst, .cons rfl (.cons (congrArg U.bool ?_) (.nil rfl))⟩
            have h7 := hv1.2
            rw [h3', List.take_length] at h7
            rw [hv1.1, h7]; exact h4
        · have hv1 : (hdOk t k lo hi && t.all toolOk) = false := by
            rcases hv with hv | hv
            · have h4 : v = false := h4
              rw [h4] at hv; cases hv.1
            · exact hv.2
          refine o_guard rfl rfl rfl rfl (fun h => absurd (h.symm.trans h4) (by decide)) (fun _ => ?_)
          refine o_guard rfl rfl rfl rfl (fun h => absurd (h.symm.trans h4) (by decide)) (fun _ => ?_)
          refine o_guard rfl rfl rfl rfl (fun h => absurd (h.symm.trans h4) (by decide)) (fun _ => ?_)
          refine o_guard rfl rfl rfl rfl (fun h => absurd (h.symm.trans h4) (by decide)) (fun _ => ?_)
          refine o_pickF rfl rfl h4 ?_
          refine o_nil ?_
          refine k_cond rfl (fun h5 => by cases h5) (fun h5 => ?_)
          refine k_exit ?_
          refine ⟨rfl, hst, .cons rfl (.cons (congrArg U.bool ?_) (.nil rfl))⟩
          rw [hv1]; exact h4
      · exact ⟨0, hdOk t k lo hi, rfl, hst, start_ok _ _ _, .cons rfl (.cons rfl (.cons rfl (.nil rfl)))⟩
    obtain ⟨hst, hs⟩ := hM2
    rw [hs.eq]
    refine k_cut (fun s => s.st[0]? = some (.box (cellsOfShop t k lo hi)) ∧ Holds s [(1, .box 0 0), (3, .bool (hdOk t k lo hi && t.all toolOk && k.all keyOk))]) ?_ fun s3 hM3 => ?_
    · refine k_seq ?_
      refine k_region ?_
      refine o_assign rfl ?_
      refine o_nil ?_
      refine k_block ?_
      refine k_loop (fun j s => ∃ (n : Nat) (v : Bool), j + n = k.length ∧ s.st[0]? = some (.box (cellsOfShop t k lo hi)) ∧ ((v = true ∧ (hdOk t k lo hi && t.all toolOk) = true ∧ (k.take n).all keyOk = true) ∨ (v = false ∧ ((hdOk t k lo hi && t.all toolOk) && k.all keyOk) = false)) ∧ Holds s [(1, .box 0 0), (3, .bool v), (5, .int .i64 n)]) (fun j s hI => ?_) k.length _ ?_
      · obtain ⟨n, v, hj, hst, hv, hs⟩ := hI
        rw [hs.eq]
        refine k_seq ?_
        refine k_seq ?_
        refine k_region ?_
        refine o_move rfl ?_
        refine o_move rfl ?_
        refine o_guard rfl rfl rfl rfl (fun h4 => ?_) (fun h4 => ?_)
        · have hv1 : (hdOk t k lo hi && t.all toolOk) = true ∧ (k.take n).all keyOk = true := by
            rcases hv with hv | hv
            · exact hv.2
            · have h4 : v = true := h4
              rw [h4] at hv; cases hv.1
          have hbig := hd_big2 hv1.1
          refine o_move rfl ?_
          refine o_guard rfl rfl rfl rfl (fun _ => ?_) (fun h => absurd ((h4).symm.trans h) (by decide))
          refine o_faddr rfl rfl fld27_2 ?_
          refine o_guard rfl rfl rfl rfl (fun _ => ?_) (fun h => absurd ((h4).symm.trans h) (by decide))
          refine o_load1 rfl rfl hst sh25 rfl ?_
          refine o_guard rfl rfl rfl rfl (fun _ => ?_) (fun h => absurd ((h4).symm.trans h) (by decide))
          refine o_len rfl ty25 rfl rfl ?_
          refine o_guard rfl rfl rfl rfl (fun _ => ?_) (fun h => absurd ((h4).symm.trans h) (by decide))
          refine o_lss rfl rfl rfl ?_
          refine o_pickT rfl rfl h4 ?_
          refine o_nil ?_
          refine k_cond rfl (fun h5 => ?_) (fun h5 => ?_)
          · have h3' : n < k.length := by
              have := h5
              simp only [hlk, decide_eq_true_eq] at this
              omega
            obtain ⟨q, hq⟩ : ∃ q, k[n]? = some q := ⟨k[n], List.getElem?_eq_getElem h3'⟩
            refine k_skip ?_
            refine k_seq ?_
            refine k_block ?_
            refine k_region ?_
            refine o_faddr rfl rfl fld27_2 ?_
            refine o_load1 rfl rfl hst sh25 rfl ?_
            refine o_move rfl ?_
            refine o_idx (u := q.u) rfl ty25 rfl rfl (Int.natCast_nonneg n) (by simp [hq]) cl69 ?_
            refine o_faddrR rfl rfl fld69_0 ?_
            refine o_loadRN rfl rfl sh24 rfl ?_
            refine o_call rfl (ret57 h57 q.a q.b (-60) 60) (.lrefl _) ?_
            refine o_move rfl ?_
            refine o_guard rfl rfl rfl rfl (fun h6 => ?_) (fun h6 => ?_)
            · refine o_faddr rfl rfl fld27_2 ?_
              refine o_guard rfl rfl rfl rfl (fun _ => ?_) (fun h => absurd ((h6).symm.trans h) (by decide))
              refine o_load1 rfl rfl hst sh25 rfl ?_
              refine o_guard rfl rfl rfl rfl (fun _ => ?_) (fun h => absurd ((h6).symm.trans h) (by decide))
              refine o_move rfl ?_
              refine o_guard rfl rfl rfl rfl (fun _ => ?_) (fun h => absurd ((h6).symm.trans h) (by decide))
              refine o_idx (u := q.u) rfl ty25 rfl rfl (Int.natCast_nonneg n) (by simp [hq]) cl69 ?_
              refine o_guard rfl rfl rfl rfl (fun _ => ?_) (fun h => absurd ((h6).symm.trans h) (by decide))
              refine o_faddrR rfl rfl fld69_1 ?_
              refine o_guard rfl rfl rfl rfl (fun _ => ?_) (fun h => absurd ((h6).symm.trans h) (by decide))
              refine o_loadR1 rfl rfl sh3 rfl ?_
              refine o_guard rfl rfl rfl rfl (fun _ => ?_) (fun h => absurd ((h6).symm.trans h) (by decide))
              refine o_call rfl (ret38 h38 q.c 0 30) (.lrefl _) ?_
              refine o_pickT rfl rfl h6 ?_
              refine o_assign rfl ?_
              refine o_nil ?_
              refine k_region ?_
              refine o_move rfl ?_
              refine o_add rfl rfl rfl (by unfold I64; omega) ?_
              refine o_assign rfl ?_
              refine o_nil ?_
              refine ⟨j - 1, by omega, n + 1, _, by omega, hst, ?_, .cons rfl (.cons rfl (.cons rfl (.nil rfl)))⟩
              exact more_ok (p := keyOk) hq hv1.1 hv1.2 (by show ((decide ((-60) ≤ q.a) && decide (q.a ≤ q.b) && decide (q.b ≤ 60)) && _) = _; rw [h6]; rfl)
            · refine o_guard rfl rfl rfl rfl (fun h => absurd (h.symm.trans h6) (by decide)) (fun _ => ?_)
              refine o_guard rfl rfl rfl rfl (fun h => absurd (h.symm.trans h6) (by decide)) (fun _ => ?_)
              refine o_guard rfl rfl rfl rfl (fun h => absurd (h.symm.trans h6) (by decide)) (fun _ => ?_)
              refine o_guard rfl rfl rfl rfl (fun h => absurd (h.symm.trans h6) (by decide)) (fun _ => ?_)
              refine o_guard rfl rfl rfl rfl (fun h => absurd (h.symm.trans h6) (by decide)) (fun _ => ?_)
              refine o_guard rfl rfl rfl rfl (fun h => absurd (h.symm.trans h6) (by decide)) (fun _ => ?_)
              refine o_pickF rfl rfl h6 ?_
              refine o_assign rfl ?_
              refine o_nil ?_
              refine k_region ?_
              refine o_move rfl ?_
              refine o_add rfl rfl rfl (by unfold I64; omega) ?_
              refine o_assign rfl ?_
              refine o_nil ?_
              refine ⟨j - 1, by omega, n + 1, _, by omega, hst, ?_, .cons rfl (.cons rfl (.cons rfl (.nil rfl)))⟩
              exact more_ok (p := keyOk) hq hv1.1 hv1.2 (by show ((decide ((-60) ≤ q.a) && decide (q.a ≤ q.b) && decide (q.b ≤ 60)) && _) = _; rw [h6]; rfl)
          · have h3' : n = k.length := by
              have := h5
              simp only [hlk, decide_eq_false_iff_not] at this
              omega
            refine k_exit ?_
            refine ⟨rfl, hst, .cons rfl (.cons (congrArg U.bool ?_) (.nil rfl))⟩
            have h7 := hv1.2
            rw [h3', List.take_length] at h7
            rw [hv1.1, h7]; exact h4
        · have hv1 : ((hdOk t k lo hi && t.all toolOk) && k.all keyOk) = false := by
            rcases hv with hv | hv
            · have h4 : v = false := h4
              rw [h4] at hv; cases hv.1
            · exact hv.2
          refine o_guard rfl rfl rfl rfl (fun h => absurd (h.symm.trans h4) (by decide)) (fun _ => ?_)
          refine o_guard rfl rfl rfl rfl (fun h => absurd (h.symm.trans h4) (by decide)) (fun _ => ?_)
          refine o_guard rfl rfl rfl rfl (fun h => absurd (h.symm.trans h4) (by decide)) (fun _ => ?_)
          refine o_guard rfl rfl rfl rfl (fun h => absurd (h.symm.trans h4) (by decide)) (fun _ => ?_)
          refine o_pickF rfl rfl h4 ?_
          refine o_nil ?_
          refine k_cond rfl (fun h5 => by cases h5) (fun h5 => ?_)
          refine k_exit ?_
          refine ⟨rfl, hst, .cons rfl (.cons (congrArg U.bool ?_) (.nil rfl))⟩
          rw [hv1]; exact h4
      · exact ⟨0, (hdOk t k lo hi && t.all toolOk), rfl, hst, start_ok _ _ _, .cons rfl (.cons rfl (.cons rfl (.nil rfl)))⟩
    obtain ⟨hst, hs⟩ := hM3
    rw [hs.eq]
    refine k_seq ?_
    refine k_seq ?_
    refine k_region ?_   -- region 10
    refine o_move rfl ?_
    refine o_not rfl rfl ?_
    refine o_nil ?_
    refine k_cond rfl (fun h1 => ?_) (fun h1 => ?_)
    · refine k_seq ?_
      refine k_region ?_
      refine o_assign rfl ?_
      refine o_nil ?_
      refine k_ret ⟨.inr rfl, _, .cons _ _ _ _ (.tmp 2) .nil, ?_⟩
      have h2 : (hdOk t k lo hi && t.all toolOk && k.all keyOk) = false := (Bool.not_eq_true' _).mp h1
      rw [show refCheckR t k lo hi = 30 by unfold refCheckR; rw [h2]; rfl]
      exact .refl _
    · refine k_skip ?_
      refine k_seq ?_
      refine k_region ?_
      refine o_assign rfl ?_
      refine o_nil ?_
      refine k_ret ⟨.inr rfl, _, .cons _ _ _ _ (.tmp 2) .nil, ?_⟩
      have h2 : (hdOk t k lo hi && t.all toolOk && k.all keyOk) = true := (Bool.not_eq_false' _).mp h1
      rw [show refCheckR t k lo hi = 0 by unfold refCheckR; rw [h2]; rfl]
      exact .refl _

def askedR (c : Int) (q : Bool) : Int := if c ≠ 0 then c else if q = false then 31 else 0
theorem dat_asked (t k : List Tri) (lo hi : Int) (q : Bool) : ∀ u ∈ [shopU (trisU t) (trisU k) lo hi, .bool q], Dat 8 u := fun u hu => by
  simp only [List.mem_cons, List.not_mem_nil, or_false] at hu
  rcases hu with rfl | rfl
  · exact dat_shop t k lo hi 5
  · exact .bool _ _
theorem valid_eq (t k : List Tri) (lo hi : Int) : checkR t k lo hi = refCheckR t k lo hi := by
  have e1 : (bnds74 t).all Bnd.ok = t.all toolOk := by
    unfold bnds74
    rw [List.all_flatMap]
    congr 1
    funext q
    simp [Bnd.ok, Tri.ok]
  have e2 : (bnds75 k).all Bnd.ok = k.all keyOk := by
    unfold bnds75
    rw [List.all_flatMap]
    congr 1
    funext q
    simp [Bnd.ok, Tri.ok]
  have e0 : (bnds0 t k lo hi).all Bnd.ok = hdOk t k lo hi := by
    unfold bnds0 hdOk
    rw [Bool.eq_iff_iff]
    simp [Bnd.ok]
    omega
  unfold checkR refCheckR valid
  rw [e0, e1, e2]
-- 52 saron/saronref03.asked params [27, 4] pure True
noncomputable def b52 : Code := (Try.f52.body).getD .skip
theorem body52 : bodyOf Try.prog 52 = some (13, b52, [.tmp 4]) := by kernel_rfl
theorem pure52 : pureFn Try.prog 52 = true := by kernel_rfl
theorem ret52 (h52 : is 52 = false) (h18 : is 18 = false) (h57 : is 57 = false) (h38 : is 38 = false) (t k : List Tri) (lo hi : Int) (q : Bool) : RetP Try.prog is orc 52 [shopU (trisU t) (trisU k) lo hi, .bool q] (.int .i64 (askedR (refCheckR t k lo hi) q)) := by
  refine ret_of body52 pure52 h52 rfl rfl (dat_asked t k lo hi q) (.inl (.int _ _ _)) ?_
  refine k_seq ?_
  refine k_region ?_   -- region 0 ref.go:89
  refine o_box rfl rfl ?_
  refine o_assign rfl ?_
  refine o_nil ?_
  refine k_seq ?_
  refine k_seq ?_
  refine k_region ?_   -- region 1 ref.go:90
  first | refine o_loadN rfl rfl rfl sh27 rfl ?_ | refine o_loadRN rfl rfl sh27 rfl ?_
  refine o_call rfl (ret18 h18 h57 h38 t k lo hi) (.lrefl _) ?_
  refine o_assign rfl ?_
  refine o_nil ?_
  refine k_seq ?_
  refine k_region ?_   -- region 2 ref.go:90
  refine o_move rfl ?_
  refine o_neq rfl rfl rfl ?_
  refine o_nil ?_
  refine k_cond rfl (fun h1 => ?_) (fun h1 => ?_)   -- slot 9
  · refine k_seq ?_
    refine k_region ?_   -- region 3 ref.go:91
    refine o_move rfl ?_
    refine o_assign rfl ?_
    refine o_nil ?_
    refine k_ret ⟨.inr rfl, _, .cons _ _ _ _ (.tmp 4) .nil, ?_⟩
    have h4 : refCheckR t k lo hi ≠ 0 := by simpa using h1
    rw [show askedR (refCheckR t k lo hi) q = refCheckR t k lo hi from if_pos h4]
    exact .refl _
  · refine k_skip ?_
    refine k_seq ?_
    refine k_seq ?_
    refine k_region ?_   -- region 4 ref.go:93
    refine o_move rfl ?_
    refine o_not rfl rfl ?_
    refine o_nil ?_
    refine k_cond rfl (fun h2 => ?_) (fun h2 => ?_)   -- slot 12
    · refine k_seq ?_
      refine k_region ?_   -- region 5 ref.go:94
      refine o_assign rfl ?_
      refine o_nil ?_
      refine k_ret ⟨.inr rfl, _, .cons _ _ _ _ (.tmp 4) .nil, ?_⟩
      have h4 : ¬ refCheckR t k lo hi ≠ 0 := by simpa using h1
      have h6 : q = false := by simpa using h2
      rw [show askedR (refCheckR t k lo hi) q = 31 from (if_neg h4).trans (if_pos h6)]
      exact .refl _
    · refine k_skip ?_
      refine k_seq ?_
      refine k_region ?_   -- region 6 ref.go:96
      refine o_assign rfl ?_
      refine o_nil ?_
      refine k_ret ⟨.inr rfl, _, .cons _ _ _ _ (.tmp 4) .nil, ?_⟩
      have h4 : ¬ refCheckR t k lo hi ≠ 0 := by simpa using h1
      have h6 : ¬ q = false := by simpa using h2
      rw [show askedR (refCheckR t k lo hi) q = 0 from (if_neg h4).trans (if_neg h6)]
      exact .refl _

theorem sh38 : shOf Try.prog 38 = .one := by kernel_rfl
theorem dat_pair {a : U} (h : Dat 8 a) : ∀ u ∈ [a, a], Dat 8 u := fun u hu => by
  simp only [List.mem_cons, List.not_mem_nil, or_false, or_self] at hu
  subst hu; exact h
abbrev rowsOf (L : List (List Int)) : List U := L.map fun l => .lst .ro 1 (intsU l)
theorem dat_rowsOf (L : List (List Int)) (k : Nat) : Dat (k + 3) (.lst .ro 1 (rowsOf L)) := by
  refine .lst _ _ _ _ (fun h => by cases h) fun c hc => ?_
  obtain ⟨e, h1, h2⟩ := List.mem_flatMap.1 hc
  obtain ⟨l, _, rfl⟩ := List.mem_map.1 h1
  have h2 : c ∈ [U.lst .ro 1 (intsU l)] := h2
  simp only [List.mem_cons, List.not_mem_nil, or_false] at h2
  subst h2; exact dat_ints _ _ (fun h => by cases h) _ _

noncomputable def b26 : Code := (Try.f26.body).getD .skip
theorem body26 : bodyOf Try.prog 26 = some (31, b26, [.tmp 4]) := by kernel_rfl
theorem pure26 : pureFn Try.prog 26 = true := by kernel_rfl
theorem ret26 (h26 : is 26 = false) (l : List Int) (hb : l.length ≤ 4096) : RetP Try.prog is orc 26 [.lst .ro 1 (intsU l), .lst .ro 1 (intsU l)] (.bool true) := by
  refine ret_of body26 pure26 h26 rfl rfl (dat_pair (dat_ints 6 .ro (fun h => by cases h) 1 l)) (.inl (.bool _ _)) ?_
  have hlen : (intsU l).length = l.length := by simp
  refine k_seq ?_
  refine k_region ?_
  refine o_assign rfl ?_
  refine o_nil ?_
  refine k_cut (fun s => Holds s [(0, .lst .ro 1 (intsU l)), (1, .lst .ro 1 (intsU l)), (5, .bool true)]) ?_ fun s1 hs => ?_
  · refine k_region ?_
    refine o_move rfl ?_
    refine o_len rfl ty38 rfl rfl ?_
    refine o_move rfl ?_
    refine o_len rfl ty38 rfl rfl ?_
    refine o_eql rfl rfl rfl ?_
    refine o_assign rfl ?_
    refine o_nil ?_
    exact ⟨rfl, .cons rfl (.cons rfl (.cons (congrArg U.bool (by simp)) (.nil rfl)))⟩
  rw [hs.eq]
  refine k_cut (fun s => Holds s [(5, .bool true)]) ?_ fun s1 hs => ?_
  · refine k_seq ?_
    refine k_region ?_
    refine o_assign rfl ?_
    refine o_nil ?_
    refine k_block ?_
    refine k_loop (fun j s => ∃ n : Nat, j + n = l.length ∧ Holds s [(0, .lst .ro 1 (intsU l)), (1, .lst .ro 1 (intsU l)), (5, .bool true), (6, .int .i64 n)]) (fun j s hI => ?_) l.length _ ?_
    · obtain ⟨n, hj, hs⟩ := hI
      rw [hs.eq]
      refine k_seq ?_
      refine k_seq ?_
      refine k_region ?_
      refine o_move rfl ?_
      refine o_move rfl ?_
      refine o_guard rfl rfl rfl rfl (fun _ => ?_) (fun h => absurd (((rfl : true = true)).symm.trans h) (by decide))
      refine o_move rfl ?_
      refine o_guard rfl rfl rfl rfl (fun _ => ?_) (fun h => absurd (((rfl : true = true)).symm.trans h) (by decide))
      refine o_move rfl ?_
      refine o_guard rfl rfl rfl rfl (fun _ => ?_) (fun h => absurd (((rfl : true = true)).symm.trans h) (by decide))
      refine o_len rfl ty38 rfl rfl ?_
      refine o_guard rfl rfl rfl rfl (fun _ => ?_) (fun h => absurd (((rfl : true = true)).symm.trans h) (by decide))
      refine o_lss rfl rfl rfl ?_
      refine o_pickT rfl rfl rfl ?_
      refine o_nil ?_
      refine k_cond rfl (fun h2 => ?_) (fun h2 => ?_)
      · have h3' : n < l.length := by
          have := h2
          simp only [hlen, decide_eq_true_eq] at this
          omega
        obtain ⟨x, hx⟩ : ∃ x, l[n]? = some x := ⟨l[n], List.getElem?_eq_getElem h3'⟩
        refine k_skip ?_
        refine k_seq ?_
        refine k_block ?_
        refine k_draw [.plain, .plain, .plain, .read true, .plain, .plain, .plain, .read true, .plain, .plain] (by kernel_rfl) (by kernel_rfl) (by kernel_rfl) ?_
        refine d_plain (o_move rfl (o_nil rfl)) ?_
        refine d_plain (o_move rfl (o_nil rfl)) ?_
        refine d_plain (o_idx (u := .int .i64 x) rfl ty38 rfl rfl (Int.natCast_nonneg n) (by simp [hx]) cl3 (o_nil rfl)) ?_
        refine d_load rfl (o_loadR1 rfl rfl sh3 rfl (o_nil rfl)) ?_
        refine d_plain (o_move rfl (o_nil rfl)) ?_
        refine d_plain (o_move rfl (o_nil rfl)) ?_
        refine d_plain (o_idx (u := .int .i64 x) rfl ty38 rfl rfl (Int.natCast_nonneg n) (by simp [hx]) cl3 (o_nil rfl)) ?_
        refine d_load rfl (o_loadR1 rfl rfl sh3 rfl (o_nil rfl)) ?_
        refine d_plain (o_eql rfl rfl rfl (o_nil rfl)) ?_
        refine d_plain (o_assign rfl (o_nil rfl)) ?_
        refine d_nil ?_
        refine k_region ?_
        refine o_move rfl ?_
        refine o_add rfl rfl rfl (by unfold I64; omega) ?_
        refine o_assign rfl ?_
        refine o_nil ?_
        exact ⟨j - 1, by omega, n + 1, by omega, .cons rfl (.cons rfl (.cons (congrArg U.bool (by simp)) (.cons rfl (.nil rfl))))⟩
      · refine k_exit ?_
        exact ⟨rfl, .cons rfl (.nil rfl)⟩
    · exact ⟨0, rfl, .cons rfl (.cons rfl (.cons rfl (.cons rfl (.nil rfl))))⟩
  rw [hs.eq]
  refine k_seq ?_
  refine k_region ?_
  refine o_move rfl ?_
  refine o_assign rfl ?_
  refine o_nil ?_
  refine k_ret ⟨.inr rfl, _, .cons _ _ _ _ (.tmp 4) .nil, ?_⟩
  exact .refl _

noncomputable def b35 : Code := (Try.f35.body).getD .skip
theorem body35 : bodyOf Try.prog 35 = some (31, b35, [.tmp 4]) := by kernel_rfl
theorem pure35 : pureFn Try.prog 35 = true := by kernel_rfl
theorem ret35 (h35 : is 35 = false) (h26 : is 26 = false) (l : List (List Int)) (hb : l.length ≤ 4096) (hl : ∀ r ∈ l, r.length ≤ 4096) : RetP Try.prog is orc 35 [.lst .ro 1 (rowsOf l), .lst .ro 1 (rowsOf l)] (.bool true) := by
  refine ret_of body35 pure35 h35 rfl rfl (dat_pair (dat_rowsOf l 5)) (.inl (.bool _ _)) ?_
  have hlen : (rowsOf l).length = l.length := by simp
  refine k_seq ?_
  refine k_region ?_
  refine o_assign rfl ?_
  refine o_nil ?_
  refine k_cut (fun s => Holds s [(0, .lst .ro 1 (rowsOf l)), (1, .lst .ro 1 (rowsOf l)), (5, .bool true)]) ?_ fun s1 hs => ?_
  · refine k_region ?_
    refine o_move rfl ?_
    refine o_len rfl ty46 rfl rfl ?_
    refine o_move rfl ?_
    refine o_len rfl ty46 rfl rfl ?_
    refine o_eql rfl rfl rfl ?_
    refine o_assign rfl ?_
    refine o_nil ?_
    exact ⟨rfl, .cons rfl (.cons rfl (.cons (congrArg U.bool (by simp)) (.nil rfl)))⟩
  rw [hs.eq]
  refine k_cut (fun s => Holds s [(5, .bool true)]) ?_ fun s1 hs => ?_
  · refine k_seq ?_
    refine k_region ?_
    refine o_assign rfl ?_
    refine o_nil ?_
    refine k_block ?_
    refine k_loop (fun j s => ∃ n : Nat, j + n = l.length ∧ Holds s [(0, .lst .ro 1 (rowsOf l)), (1, .lst .ro 1 (rowsOf l)), (5, .bool true), (6, .int .i64 n)]) (fun j s hI => ?_) l.length _ ?_
    · obtain ⟨n, hj, hs⟩ := hI
      rw [hs.eq]
      refine k_seq ?_
      refine k_seq ?_
      refine k_region ?_
      refine o_move rfl ?_
      refine o_move rfl ?_
      refine o_guard rfl rfl rfl rfl (fun _ => ?_) (fun h => absurd (((rfl : true = true)).symm.trans h) (by decide))
      refine o_move rfl ?_
      refine o_guard rfl rfl rfl rfl (fun _ => ?_) (fun h => absurd (((rfl : true = true)).symm.trans h) (by decide))
      refine o_move rfl ?_
      refine o_guard rfl rfl rfl rfl (fun _ => ?_) (fun h => absurd (((rfl : true = true)).symm.trans h) (by decide))
      refine o_len rfl ty46 rfl rfl ?_
      refine o_guard rfl rfl rfl rfl (fun _ => ?_) (fun h => absurd (((rfl : true = true)).symm.trans h) (by decide))
      refine o_lss rfl rfl rfl ?_
      refine o_pickT rfl rfl rfl ?_
      refine o_nil ?_
      refine k_cond rfl (fun h2 => ?_) (fun h2 => ?_)
      · have h3' : n < l.length := by
          have := h2
          simp only [hlen, decide_eq_true_eq] at this
          omega
        obtain ⟨x, hx⟩ : ∃ x, l[n]? = some x := ⟨l[n], List.getElem?_eq_getElem h3'⟩
        refine k_skip ?_
        refine k_seq ?_
        refine k_block ?_
        refine k_draw [.plain, .plain, .plain, .read true, .plain, .plain, .plain, .read true, .plain, .plain] (by kernel_rfl) (by kernel_rfl) (by kernel_rfl) ?_
        refine d_plain (o_move rfl (o_nil rfl)) ?_
        refine d_plain (o_move rfl (o_nil rfl)) ?_
        refine d_plain (o_idx (u := .lst .ro 1 (intsU x)) rfl ty46 rfl rfl (Int.natCast_nonneg n) (by simp [hx]) cl38 (o_nil rfl)) ?_
        refine d_load rfl (o_loadR1 rfl rfl sh38 rfl (o_nil rfl)) ?_
        refine d_plain (o_move rfl (o_nil rfl)) ?_
        refine d_plain (o_move rfl (o_nil rfl)) ?_
        refine d_plain (o_idx (u := .lst .ro 1 (intsU x)) rfl ty46 rfl rfl (Int.natCast_nonneg n) (by simp [hx]) cl38 (o_nil rfl)) ?_
        refine d_load rfl (o_loadR1 rfl rfl sh38 rfl (o_nil rfl)) ?_
        refine d_plain (o_call rfl (ret26 h26 x (hl x (List.mem_of_getElem? hx))) (.lrefl _) (o_nil rfl)) ?_
        refine d_plain (o_assign rfl (o_nil rfl)) ?_
        refine d_nil ?_
        refine k_region ?_
        refine o_move rfl ?_
        refine o_add rfl rfl rfl (by unfold I64; omega) ?_
        refine o_assign rfl ?_
        refine o_nil ?_
        exact ⟨j - 1, by omega, n + 1, by omega, .cons rfl (.cons rfl (.cons (rfl) (.cons rfl (.nil rfl))))⟩
      · refine k_exit ?_
        exact ⟨rfl, .cons rfl (.nil rfl)⟩
    · exact ⟨0, rfl, .cons rfl (.cons rfl (.cons rfl (.cons rfl (.nil rfl))))⟩
  rw [hs.eq]
  refine k_seq ?_
  refine k_region ?_
  refine o_move rfl ?_
  refine o_assign rfl ?_
  refine o_nil ?_
  refine k_ret ⟨.inr rfl, _, .cons _ _ _ _ (.tmp 4) .nil, ?_⟩
  exact .refl _

def offOk (x : Int) : Bool := decide (-60 ≤ x) && decide (x ≤ 60)
def lenOk (h : List Int) : Bool := decide (1 ≤ ((intsU h).length : Int)) && decide (((intsU h).length : Int) ≤ 31)
theorem lenOk_big {h : List Int} (e : lenOk h = true) : 1 ≤ h.length ∧ h.length ≤ 31 := by
  unfold lenOk at e
  simp at e
  omega
theorem heardOk_eq (h : List Int) : heardOk h = (lenOk h && h.all offOk) := by
  unfold heardOk lenOk offs offOk
  rw [Bool.eq_iff_iff]
  simp
  omega
theorem more_okI {p : Int → Bool} {l : List Int} {n : Nat} {q : Int} {b w : Bool} (hq : l[n]? = some q) (hb : b = true) (ho : (l.take n).all p = true) (hw : p q = w) : (w = true ∧ b = true ∧ (l.take (n + 1)).all p = true) ∨ (w = false ∧ (b && l.all p) = false) := by
  cases w with
  | true => exact .inl ⟨rfl, hb, all_take hq ho hw⟩
  | false => exact .inr ⟨rfl, by rw [all_not hq hw]; simp⟩
theorem start_okI (b : Bool) (l : List Int) (p : Int → Bool) : (b = true ∧ b = true ∧ (l.take 0).all p = true) ∨ (b = false ∧ (b && l.all p) = false) := by
  cases b with
  | true => exact .inl ⟨rfl, rfl, rfl⟩
  | false => exact .inr ⟨rfl, rfl⟩
noncomputable def toldR (c : Int) (t : List Tri) (h : List Int) : U := if c ≠ 0 then .tup [.lst .ro 1 [], .int .i64 c] else strokesR t h
theorem dat_toldR (c : Int) (t : List Tri) (h : List Int) : DatR (toldR c t h) := by
  unfold toldR
  split
  · exact dat_two (dat_nil _ _ (fun h => by cases h)) (.int _ _ _)
  · exact dat_strokes t h
theorem asked_ok {t k : List Tri} {lo hi : Int} {b : Bool} (h : ¬ askedR (refCheckR t k lo hi) b ≠ 0) : b = true ∧ t.length ≤ 4 := by
  unfold askedR at h
  by_cases h1 : refCheckR t k lo hi ≠ 0
  · rw [if_pos h1] at h; exact absurd h1 h
  · rw [if_neg h1] at h
    cases b with
    | false => exact absurd (by decide) h
    | true =>
      refine ⟨rfl, ?_⟩
      unfold refCheckR at h1
      cases hh : hdOk t k lo hi with
      | true => exact (hd_big hh).1
      | false => rw [hh] at h1; exact absurd (by show (30 : Int) ≠ 0; decide) h1
noncomputable def b34 : Code := (Try.f34.body).getD .skip
theorem body34 : bodyOf Try.prog 34 = some (78, b34, [.tmp 4, .tmp 5]) := by kernel_rfl
theorem pure34 : pureFn Try.prog 34 = true := by kernel_rfl
theorem ret34 (h34 : is 34 = false) (h52 : is 52 = false) (h18 : is 18 = false) (h57 : is 57 = false) (h38 : is 38 = false) (h39 : is 39 = false) (t k : List Tri) (lo hi : Int) (h : List Int) :
    RetP Try.prog is orc 34 [shopU (trisU t) (trisU k) lo hi, .lst .ro 1 (intsU h)] (toldR (askedR (refCheckR t k lo hi) (heardOk h)) t h) := by
  refine ret_of body34 pure34 h34 rfl rfl (dat_told t k lo hi h) (dat_toldR _ t h) ?_
  have hlen : (intsU h).length = h.length := by simp
  have hlt : (trisU t).length = t.length := by simp
  refine k_seq ?_
  refine k_region ?_   -- region 0
  refine o_box rfl rfl ?_
  refine o_assign rfl ?_
  refine o_assign rfl ?_
  refine o_nil ?_
  refine k_seq ?_
  refine k_region ?_   -- region 1
  refine o_move rfl ?_
  refine o_len rfl ty38 rfl rfl ?_
  refine o_call rfl (ret38 h38 _ 1 31) (.lrefl _) ?_
  refine o_assign rfl ?_
  refine o_nil ?_
  refine k_cut (fun s => s.st[0]? = some (.box (cellsOfShop t k lo hi)) ∧ Holds s [(1, .lst .ro 1 (intsU h)), (2, .box 0 0), (6, .bool (heardOk h))]) ?_ fun s1 hM => ?_
  · refine k_seq ?_
    refine k_region ?_
    refine o_assign rfl ?_
    refine o_nil ?_
    refine k_block ?_
    refine k_loop (fun j s => ∃ (n : Nat) (v : Bool), j + n = h.length ∧ s.st[0]? = some (.box (cellsOfShop t k lo hi)) ∧ ((v = true ∧ lenOk h = true ∧ (h.take n).all offOk = true) ∨ (v = false ∧ (lenOk h && h.all offOk) = false)) ∧ Holds s [(1, .lst .ro 1 (intsU h)), (2, .box 0 0), (6, .bool v), (7, .int .i64 n)]) (fun j s hI => ?_) h.length _ ?_
    · obtain ⟨n, v, hj, hst, hv, hs⟩ := hI
      rw [hs.eq]
      refine k_seq ?_
      refine k_seq ?_
      refine k_region ?_
      refine o_move rfl ?_
      refine o_move rfl ?_
      refine o_guard rfl rfl rfl rfl (fun h4 => ?_) (fun h4 => ?_)
      · have hv1 : lenOk h = true ∧ (h.take n).all offOk = true := by
          rcases hv with hv | hv
          · exact hv.2
          · have h4 : v = true := h4
            rw [h4] at hv; cases hv.1
        have hbig := lenOk_big hv1.1
        refine o_move rfl ?_
        refine o_guard rfl rfl rfl rfl (fun _ => ?_) (fun h => absurd ((h4).symm.trans h) (by decide))
        refine o_move rfl ?_
        refine o_guard rfl rfl rfl rfl (fun _ => ?_) (fun h => absurd ((h4).symm.trans h) (by decide))
        refine o_len rfl ty38 rfl rfl ?_
        refine o_guard rfl rfl rfl rfl (fun _ => ?_) (fun h => absurd ((h4).symm.trans h) (by decide))
        refine o_lss rfl rfl rfl ?_
        refine o_pickT rfl rfl h4 ?_
        refine o_nil ?_
        refine k_cond rfl (fun h5 => ?_) (fun h5 => ?_)
        · have h3' : n < h.length := by
            have := h5
            simp only [hlen, decide_eq_true_eq] at this
            omega
          obtain ⟨x, hx⟩ : ∃ x, h[n]? = some x := ⟨h[n], List.getElem?_eq_getElem h3'⟩
          refine k_skip ?_
          refine k_seq ?_
          refine k_block ?_
          refine k_region ?_
          refine o_move rfl ?_
          refine o_move rfl ?_
          refine o_idx (u := .int .i64 x) rfl ty38 rfl rfl (Int.natCast_nonneg n) (by simp [hx]) cl3 ?_
          refine o_loadR1 rfl rfl sh3 rfl ?_
          refine o_call rfl (ret38 h38 x (-60) 60) (.lrefl _) ?_
          refine o_assign rfl ?_
          refine o_nil ?_
          refine k_region ?_
          refine o_move rfl ?_
          refine o_add rfl rfl rfl (by unfold I64; omega) ?_
          refine o_assign rfl ?_
          refine o_nil ?_
          exact ⟨j - 1, by omega, n + 1, _, by omega, hst, more_okI (p := offOk) hx hv1.1 hv1.2 rfl, .cons rfl (.cons rfl (.cons rfl (.cons rfl (.nil rfl))))⟩
        · have h3' : n = h.length := by
            have := h5
            simp only [hlen, decide_eq_false_iff_not] at this
            omega
          refine k_exit ?_
          refine ⟨rfl, hst, .cons rfl (.cons rfl (.cons (congrArg U.bool ?_) (.nil rfl)))⟩
          have h7 := hv1.2
          rw [h3', List.take_length] at h7
          rw [heardOk_eq, hv1.1, h7]; exact h4
      · have hv1 : (lenOk h && h.all offOk) = false := by
          rcases hv with hv | hv
          · have h4 : v = false := h4
            rw [h4] at hv; cases hv.1
          · exact hv.2
        refine o_guard rfl rfl rfl rfl (fun h => absurd (h.symm.trans h4) (by decide)) (fun _ => ?_)
        refine o_guard rfl rfl rfl rfl (fun h => absurd (h.symm.trans h4) (by decide)) (fun _ => ?_)
        refine o_guard rfl rfl rfl rfl (fun h => absurd (h.symm.trans h4) (by decide)) (fun _ => ?_)
        refine o_pickF rfl rfl h4 ?_
        refine o_nil ?_
        refine k_cond rfl (fun h5 => by cases h5) (fun h5 => ?_)
        refine k_exit ?_
        refine ⟨rfl, hst, .cons rfl (.cons rfl (.cons (congrArg U.bool ?_) (.nil rfl)))⟩
        rw [heardOk_eq, hv1]; exact h4
    · exact ⟨0, lenOk h, rfl, rfl, start_okI _ _ _, .cons rfl (.cons rfl (.cons rfl (.cons rfl (.nil rfl))))⟩
  obtain ⟨hst, hs⟩ := hM
  rw [hs.eq]
  refine k_seq ?_
  refine k_seq ?_
  refine k_region ?_   -- region 6
  refine o_loadN rfl rfl hst sh27 rfl ?_
  refine o_move rfl ?_
  refine o_call rfl (ret52 h52 h18 h57 h38 t k lo hi (heardOk h)) (.lrefl _) ?_
  refine o_assign rfl ?_
  refine o_nil ?_
  refine k_seq ?_
  refine k_region ?_   -- region 7
  refine o_move rfl ?_
  refine o_neq rfl rfl rfl ?_
  refine o_nil ?_
  refine k_cond rfl (fun h1 => ?_) (fun h1 => ?_)
  · refine k_seq ?_
    refine k_region ?_
    refine o_move rfl ?_
    refine o_assign rfl ?_
    refine o_assign rfl ?_
    refine o_nil ?_
    refine k_ret ⟨.inr rfl, _, .cons _ _ _ _ (.tmp 4) (.cons _ _ _ _ (.tmp 5) .nil), ?_⟩
    have h4 : askedR (refCheckR t k lo hi) (heardOk h) ≠ 0 := by simpa using h1
    rw [show toldR (askedR (refCheckR t k lo hi) (heardOk h)) t h = .tup [.lst .ro 1 [], .int .i64 (askedR (refCheckR t k lo hi) (heardOk h))] from if_pos h4]
    exact .tup _ _ (.lcons _ _ _ _ (.nil _ _ _) (.lrefl _))
  have h4 : ¬ askedR (refCheckR t k lo hi) (heardOk h) ≠ 0 := by simpa using h1
  obtain ⟨hh, ht⟩ := asked_ok h4
  rw [show toldR (askedR (refCheckR t k lo hi) (heardOk h)) t h = strokesR t h from if_neg h4]
  have hb : 1 ≤ h.length ∧ h.length ≤ 31 := by
    rw [heardOk_eq] at hh
    refine lenOk_big (h := h) ?_
    cases e : lenOk h with
    | true => rfl
    | false => rw [e] at hh; cases hh
  have ho : offs h = true := by
    unfold heardOk at hh
    cases e : offs h with
    | true => rfl
    | false => rw [e] at hh; simp at hh
  refine k_skip ?_
  refine k_seq ?_
  refine k_region ?_   -- region 9
  refine o_assignN 1 rfl (fun _ => rfl) ?_
  refine o_nil ?_
  refine k_seq ?_
  refine k_seq ?_
  refine k_region ?_   -- region 10
  refine o_assign rfl ?_
  refine o_nil ?_
  refine k_block ?_
  refine k_loop (fun j s => ∃ n : Nat, j + n = h.length ∧ 1 ≤ n ∧ n ≤ h.length ∧ (∀ i, i < n - 1 → stepL t h i ≠ []) ∧ s.st[0]? = some (.box (cellsOfShop t k lo hi)) ∧ Holds s [(1, .lst .ro 1 (intsU h)), (2, .box 0 0), (9, .lst .own 1 (rowsU t h (n - 1))), (10, .int .i64 n)]) (fun j s hI => ?_) (h.length - 1) _ ?_
  · obtain ⟨n, hj, hn1, hn2, hne, hst, hs⟩ := hI
    rw [hs.eq]
    refine k_seq ?_
    refine k_seq ?_
    refine k_region ?_   -- region 11
    refine o_move rfl ?_
    refine o_move rfl ?_
    refine o_len rfl ty38 rfl rfl ?_
    refine o_lss rfl rfl rfl ?_
    refine o_nil ?_
    refine k_cond rfl (fun h2 => ?_) (fun h2 => ?_)
    · have h3' : n < h.length := by
        have := h2
        simp only [hlen, decide_eq_true_eq] at this
        omega
      obtain ⟨x, hx⟩ : ∃ x, h[n - 1]? = some x := ⟨h[n - 1], List.getElem?_eq_getElem (by omega)⟩
      obtain ⟨y, hy⟩ : ∃ y, h[n]? = some y := ⟨h[n], List.getElem?_eq_getElem (by omega)⟩
      have bx := offs_get ho hx
      have bY := offs_get ho hy
      have hstep : stepL t h (n - 1) = hits t (y - x) t.length := by unfold stepL; rw [hx, show n - 1 + 1 = n by omega, hy]; rfl
      refine k_skip ?_
      refine k_seq ?_
      refine k_block ?_
      refine k_seq ?_
      refine k_region ?_   -- region 13
      refine o_assignN 1 rfl (fun _ => rfl) ?_
      refine o_nil ?_
      refine k_cut (fun s => s.st[0]? = some (.box (cellsOfShop t k lo hi)) ∧ Holds s [(1, .lst .ro 1 (intsU h)), (2, .box 0 0), (9, .lst .own 1 (rowsU t h (n - 1))), (10, .int .i64 n), (11, .lst .own 1 (intsU (hits t (y - x) t.length)))]) ?_ fun s2 hM => ?_
      · refine k_seq ?_
        refine k_region ?_   -- region 14
        refine o_assign rfl ?_
        refine o_nil ?_
        refine k_block ?_
        refine k_loop (fun j s => ∃ m : Nat, j + m = t.length ∧ s.st[0]? = some (.box (cellsOfShop t k lo hi)) ∧ Holds s [(1, .lst .ro 1 (intsU h)), (2, .box 0 0), (9, .lst .own 1 (rowsU t h (n - 1))), (10, .int .i64 n), (11, .lst .own 1 (intsU (hits t (y - x) m))), (12, .int .i64 m)]) (fun j s hI => ?_) t.length _ ?_
        · obtain ⟨m, hj, hst, hs⟩ := hI
          rw [hs.eq]
          refine k_seq ?_
          refine k_seq ?_
          refine k_region ?_   -- region 15
          refine o_move rfl ?_
          refine o_faddr rfl rfl fld27_0 ?_
          refine o_load1 rfl rfl hst sh22 rfl ?_
          refine o_len rfl ty22 rfl rfl ?_
          refine o_lss rfl rfl rfl ?_
          refine o_nil ?_
          refine k_cond rfl (fun h5 => ?_) (fun h5 => ?_)
          · have h6' : m < t.length := by
              have := h5
              simp only [hlt, decide_eq_true_eq] at this
              omega
            obtain ⟨q, hq⟩ : ∃ q, t[m]? = some q := ⟨t[m], List.getElem?_eq_getElem h6'⟩
            refine k_skip ?_
            refine k_seq ?_
            refine k_block ?_
            refine k_seq ?_
            refine k_draw [.plain, .read true, .plain, .plain, .plain, .read true, .plain, .plain, .plain, .read true, .plain, .plain, .plain, .plain, .read true, .plain, .plain] (by kernel_rfl) (by kernel_rfl) (by kernel_rfl) ?_   -- region 17
            refine d_plain (o_faddr rfl rfl fld27_0 (o_nil rfl)) ?_
            refine d_load rfl (o_load1 rfl rfl hst sh22 rfl (o_nil rfl)) ?_
            refine d_plain (o_move rfl (o_nil rfl)) ?_
            refine d_plain (o_idx (u := q.u) rfl ty22 rfl rfl (Int.natCast_nonneg m) (by simp [hq]) cl57 (o_nil rfl)) ?_
            refine d_plain (o_faddrR rfl rfl fld57_0 (o_nil rfl)) ?_
            refine d_load rfl (o_loadRN rfl rfl sh24 rfl (o_nil rfl)) ?_
            refine d_plain (o_move rfl (o_nil rfl)) ?_
            refine d_plain (o_move rfl (o_nil rfl)) ?_
            refine d_plain (o_idx (u := .int .i64 y) rfl ty38 rfl rfl (Int.natCast_nonneg n) (by simp [hy]) cl3 (o_nil rfl)) ?_
            refine d_load rfl (o_loadR1 rfl rfl sh3 rfl (o_nil rfl)) ?_
            refine d_plain (o_move rfl (o_nil rfl)) ?_
            refine d_plain (o_move rfl (o_nil rfl)) ?_
            refine d_plain (o_sub rfl rfl rfl (by unfold I64; omega) (o_nil rfl)) ?_
            refine d_plain (o_idx (u := .int .i64 x) rfl ty38 rfl rfl (by omega) (by rw [show ((n : Int) - 1).toNat = n - 1 by omega]; simp [hx]) cl3 (o_nil rfl)) ?_
            refine d_load rfl (o_loadR1 rfl rfl sh3 rfl (o_nil rfl)) ?_
            refine d_plain (o_sub rfl rfl rfl (by unfold I64; omega) (o_nil rfl)) ?_
            refine d_plain (o_call rfl (ret39 h39 h38 q.a q.b (y - x)) (.lrefl _) (o_nil rfl)) ?_
            refine d_nil ?_
            refine k_cond rfl (fun h7 => ?_) (fun h7 => ?_)
            · refine k_region ?_   -- region 18
              refine o_move rfl ?_
              refine o_move rfl ?_
              refine o_lit rfl ty38 ze3 cl3 rfl rfl rfl rfl rfl rfl rfl rfl ?_
              refine o_appendS 11 rfl ap38_38 rfl rfl rfl (.inl rfl) (.inl rfl) rfl (by have := hits_len t (y - x) m; simp only [intsU, List.length_map, List.length_cons, List.length_nil]; omega) ?_
              refine o_assign rfl ?_
              refine o_nil ?_
              refine k_region ?_   -- region 16
              refine o_move rfl ?_
              refine o_add rfl rfl rfl (by unfold I64; omega) ?_
              refine o_assign rfl ?_
              refine o_nil ?_
              exact ⟨j - 1, by omega, m + 1, by omega, hst, .cons rfl (.cons rfl (.cons rfl (.cons rfl (.cons (congrArg (U.lst .own 1) (hits_in hq h7)) (.cons rfl (.nil rfl))))))⟩
            · refine k_skip ?_
              refine k_region ?_   -- region 16
              refine o_move rfl ?_
              refine o_add rfl rfl rfl (by unfold I64; omega) ?_
              refine o_assign rfl ?_
              refine o_nil ?_
              exact ⟨j - 1, by omega, m + 1, by omega, hst, .cons rfl (.cons rfl (.cons rfl (.cons rfl (.cons (congrArg (U.lst .own 1) (hits_out hq h7)) (.cons rfl (.nil rfl))))))⟩
          · have h6' : m = t.length := by
              have := h5
              simp only [hlt, decide_eq_false_iff_not] at this
              omega
            refine k_exit ?_
            rw [← h6']
            exact ⟨rfl, hst, .cons rfl (.cons rfl (.cons rfl (.cons rfl (.cons rfl (.nil rfl)))))⟩
        · exact ⟨0, rfl, hst, .cons rfl (.cons rfl (.cons rfl (.cons rfl (.cons rfl (.cons rfl (.nil rfl))))))⟩
      obtain ⟨hst, hs⟩ := hM
      rw [hs.eq]
      refine k_seq ?_
      refine k_seq ?_
      refine k_region ?_   -- region 19
      refine o_move rfl ?_
      refine o_len rfl ty38 rfl rfl ?_
      refine o_eql rfl rfl rfl ?_
      refine o_nil ?_
      refine k_cond rfl (fun h3 => ?_) (fun h3 => ?_)
      · refine k_seq ?_
        refine k_region ?_   -- region 20
        refine o_assign rfl ?_
        refine o_assign rfl ?_
        refine o_nil ?_
        refine k_ret ⟨.inr rfl, _, .cons _ _ _ _ (.tmp 4) (.cons _ _ _ _ (.tmp 5) .nil), ?_⟩
        have h8 : stepL t h (n - 1) = [] := by
          rw [hstep]
          have := h3
          simp only [decide_eq_true_eq, intsU, List.length_map] at this
          exact List.length_eq_zero_iff.1 (by omega)
        rw [show strokesR t h = .tup [.lst .ro 1 [], .int .i64 4] from if_neg (fun hall => hall (n - 1) (by omega) h8)]
        exact .tup _ _ (.lcons _ _ _ _ (.nil _ _ _) (.lrefl _))
      · refine k_skip ?_
        have h8 : stepL t h (n - 1) ≠ [] := by
          rw [hstep]
          intro e
          have := h3
          simp only [decide_eq_false_iff_not, intsU, List.length_map, e] at this
          exact this rfl
        refine k_region ?_   -- region 21
        refine o_move rfl ?_
        refine o_move rfl ?_
        refine o_lit rfl ty46 ze38 cl38 rfl rfl rfl rfl rfl rfl rfl rfl ?_
        refine o_appendS 9 rfl ap46_46 rfl rfl rfl (.inl rfl) (.inl rfl) rfl (by simp only [rowsU, List.length_map, List.length_range, List.length_cons, List.length_nil]; omega) ?_
        refine o_assign rfl ?_
        refine o_nil ?_
        refine k_region ?_   -- region 12
        refine o_move rfl ?_
        refine o_add rfl rfl rfl (by unfold I64; omega) ?_
        refine o_assign rfl ?_
        refine o_nil ?_
        refine ⟨j - 1, by omega, n + 1, by omega, by omega, by omega, fun i hi => if e : i = n - 1 then e ▸ h8 else hne i (by omega), hst, .cons rfl (.cons rfl (.cons ?_ (.cons rfl (.nil rfl))))⟩
        have := rows_next hstep
        rw [show n - 1 + 1 = n + 1 - 1 by omega] at this
        exact congrArg (U.lst .own 1) this
    · have h3' : n = h.length := by
        have := h2
        simp only [hlen, decide_eq_false_iff_not] at this
        omega
      refine k_exit ?_
      refine k_seq ?_
      refine k_region ?_   -- region 22
      refine o_move rfl ?_
      refine o_assign rfl ?_
      refine o_assign rfl ?_
      refine o_nil ?_
      refine k_ret ⟨.inr rfl, _, .cons _ _ _ _ (.tmp 4) (.cons _ _ _ _ (.tmp 5) .nil), ?_⟩
      rw [show strokesR t h = .tup [.lst .ro 1 (rowsU t h (h.length - 1)), .int .i64 0] from if_pos (by rw [← h3']; exact hne)]
      rw [h3']
      exact .tup _ _ (.lcons _ _ _ _ (.ro _ _ _) (.lrefl _))
  · exact ⟨1, by omega, Nat.le_refl _, hb.1, fun i hi => absurd hi (Nat.not_lt_zero i), hst, .cons rfl (.cons rfl (.cons rfl (.cons rfl (.nil rfl))))⟩

section
variable (h33 : is 33 = false) (h68 : is 68 = false) (h50 : is 50 = false) (h66 : is 66 = false) (h17 : is 17 = false) (h56 : is 56 = false) (h72 : is 72 = false) (h73 : is 73 = false) (h74 : is 74 = false) (h75 : is 75 = false) (h80 : is 80 = false)
include h33 h68 h50 h66 h17 h56 h72 h73 h74 h75 h80
theorem ret33 (t k : List Tri) (lo hi : Int) (h : List Int) :
    RetP Try.prog is orc 33 [shopU (trisU t) (trisU k) lo hi, .lst .ro 1 (intsU h)] (toldR (askedR (refCheckR t k lo hi) (heardOk h)) t h) := by
  have hck := ret17 (orc := orc) h17 h56 h72 h73 h74 h75 h80 t k lo hi
  rw [valid_eq] at hck
  have hask := ret49 (dat_tris t .ro (fun h => by cases h) 6).nb (dat_tris k .ro (fun h => by cases h) 6).nb hck (heardOk h)
  by_cases h1 : refCheckR t k lo hi ≠ 0
  · rw [show askR (trisU t) (trisU k) lo hi (refCheckR t k lo hi) (heardOk h) = .tup [shopZ, .int .i64 (refCheckR t k lo hi)] from if_pos h1] at hask
    rw [show askedR (refCheckR t k lo hi) (heardOk h) = refCheckR t k lo hi from if_pos h1, show toldR (refCheckR t k lo hi) t h = .tup [.lst .ro 1 [], .int .i64 (refCheckR t k lo hi)] from if_pos h1]
    exact ret33_err h33 h68 h50 t k lo hi h h1 hask
  · by_cases h2 : heardOk h = false
    · rw [show askR (trisU t) (trisU k) lo hi (refCheckR t k lo hi) (heardOk h) = .tup [shopZ, .int .i64 31] from (if_neg h1).trans (if_pos h2)] at hask
      rw [show askedR (refCheckR t k lo hi) (heardOk h) = 31 from (if_neg h1).trans (if_pos h2), show toldR 31 t h = .tup [.lst .ro 1 [], .int .i64 31] from if_pos (by decide)]
      exact ret33_err h33 h68 h50 t k lo hi h (by decide) hask
    · have h3 : askedR (refCheckR t k lo hi) (heardOk h) = 0 := (if_neg h1).trans (if_neg h2)
      have hb := asked_ok (t := t) (k := k) (lo := lo) (hi := hi) (b := heardOk h) (fun h => h h3)
      rw [show askR (trisU t) (trisU k) lo hi (refCheckR t k lo hi) (heardOk h) = .tup [shopF (trisU t) (trisU k) lo hi chooseU chooseU, .int .i64 0] from (if_neg h1).trans (if_neg h2)] at hask
      rw [h3, show toldR 0 t h = strokesR t h from if_neg (by decide)]
      have hh := hb.1
      unfold heardOk at hh
      simp only [Bool.and_eq_true, decide_eq_true_eq] at hh
      exact ret33_ok h33 h68 h50 h66 t k lo hi h (by have := hb.2; omega) hh.1.1 hh.1.2 hh.2 hask
end
theorem toldR_rows (c : Int) (t : List Tri) (h : List Int) (ht : ¬ c ≠ 0 → t.length ≤ 4096 ∧ h.length ≤ 31) : ∃ (L : List (List Int)) (e : Int), toldR c t h = .tup [.lst .ro 1 (rowsOf L), .int .i64 e] ∧ L.length ≤ 4096 ∧ ∀ r ∈ L, r.length ≤ 4096 := by
  by_cases h1 : c ≠ 0
  · exact ⟨[], c, if_pos h1, by simp, fun r hr => by cases hr⟩
  · obtain ⟨b1, b2⟩ := ht h1
    rw [show toldR c t h = strokesR t h from if_neg h1]
    by_cases h2 : ∀ i, i < h.length - 1 → stepL t h i ≠ []
    · refine ⟨(List.range (h.length - 1)).map fun i => stepL t h i, 0, ?_, by simp; omega, fun r hr => ?_⟩
      · rw [show strokesR t h = .tup [.lst .ro 1 (rowsU t h (h.length - 1)), .int .i64 0] from if_pos h2]
        simp [rowsOf, rowsU]
      · obtain ⟨i, _, rfl⟩ := List.mem_map.1 hr
        exact Nat.le_trans (hits_len _ _ _) b1
    · exact ⟨[], 4, if_neg h2, by simp, fun r hr => by cases hr⟩
noncomputable def b6 : Code := (Try.f6.body).getD .skip
theorem body6 : bodyOf Try.prog 6 = some (32, b6, [.tmp 4]) := by kernel_rfl
theorem pure6 : pureFn Try.prog 6 = true := by kernel_rfl
theorem ret6 (h6 : is 6 = false) (h35 : is 35 = false) (h26 : is 26 = false) (t k : List Tri) (lo hi : Int) (h : List Int) {L : List (List Int)} {e : Int} (hb1 : L.length ≤ 4096) (hb2 : ∀ r ∈ L, r.length ≤ 4096)
    (r33 : RetP Try.prog is orc 33 [shopU (trisU t) (trisU k) lo hi, .lst .ro 1 (intsU h)] (.tup [.lst .ro 1 (rowsOf L), .int .i64 e])) (r34 : RetP Try.prog is orc 34 [shopU (trisU t) (trisU k) lo hi, .lst .ro 1 (intsU h)] (.tup [.lst .ro 1 (rowsOf L), .int .i64 e]))
    (r21 : RetP Try.prog is orc 21 [] (.bool true)) : RetP Try.prog is orc 6 [shopU (trisU t) (trisU k) lo hi, .lst .ro 1 (intsU h)] (.bool true) := by
  refine ret_of body6 pure6 h6 rfl rfl (dat_told t k lo hi h) (.inl (.bool _ _)) ?_
  refine k_seq ?_
  refine k_region ?_   -- region 0 law.go:54
  refine o_box rfl rfl ?_
  refine o_assign rfl ?_
  refine o_nil ?_
  refine k_seq ?_
  refine k_region ?_   -- region 1 law.go:55
  refine o_loadN rfl rfl rfl sh27 rfl ?_
  refine o_move rfl ?_
  refine o_call rfl r33 (.lrefl _) ?_
  refine o_move rfl ?_
  refine o_extract rfl rfl rfl ?_
  refine o_extract rfl rfl rfl ?_
  refine o_assign rfl ?_
  refine o_assign rfl ?_
  refine o_nil ?_
  refine k_seq ?_
  refine k_region ?_   -- region 2 law.go:56
  refine o_loadN rfl rfl rfl sh27 rfl ?_
  refine o_move rfl ?_
  refine o_call rfl r34 (.lrefl _) ?_
  refine o_move rfl ?_
  refine o_extract rfl rfl rfl ?_
  refine o_extract rfl rfl rfl ?_
  refine o_assign rfl ?_
  refine o_assign rfl ?_
  refine o_nil ?_
  refine k_seq ?_
  refine k_region ?_   -- region 3 law.go:57
  refine o_move rfl ?_
  refine o_move rfl ?_
  refine o_call rfl (ret35 h35 h26 L hb1 hb2) (.lrefl _) ?_
  refine o_move rfl ?_
  refine o_guard rfl rfl rfl rfl (fun _ => ?_) (fun h => absurd (((rfl : true = true)).symm.trans h) (by decide))
  refine o_move rfl ?_
  refine o_guard rfl rfl rfl rfl (fun _ => ?_) (fun h => absurd (((rfl : true = true)).symm.trans h) (by decide))
  refine o_move rfl ?_
  refine o_guard rfl rfl rfl rfl (fun _ => ?_) (fun h => absurd (((rfl : true = true)).symm.trans h) (by decide))
  refine o_eql rfl rfl rfl ?_
  refine o_pickT rfl rfl rfl ?_
  refine o_move rfl ?_
  have he : decide (e = e) = true := by simp
  refine o_guard rfl rfl rfl rfl (fun _ => ?_) (fun h => absurd ((he).symm.trans h) (by decide))
  refine o_call rfl r21 (.lrefl _) ?_
  refine o_pickT rfl rfl he ?_
  refine o_assign rfl ?_
  refine o_nil ?_
  refine k_ret ⟨.inr rfl, _, .cons _ _ _ _ (.tmp 4) .nil, ?_⟩
  exact .refl _

set_option linter.constructorNameAsVariable false
theorem und_struct {P : Program} {t : TypeId} (n : Nat) (h : (match P.underlying t with | some (.struct fs) => Nat.beq fs.size n | _ => false) = true) : ∃ fs, P.underlying t = some (.struct fs) := by
  cases hu : P.underlying t with
  | none => rw [hu] at h; cases h
  | some ty => rw [hu] at h; cases ty <;> first | exact ⟨_, rfl⟩ | cases h
theorem u38 : Try.prog.underlying 38 = some (.slice 3) := by kernel_rfl
theorem u3 : Try.prog.underlying 3 = some (.int .i64) := by kernel_rfl
theorem u22 : Try.prog.underlying 22 = some (.slice 57) := by kernel_rfl
theorem u25 : Try.prog.underlying 25 = some (.slice 69) := by kernel_rfl
def fts (P : Program) (t : TypeId) : List TypeId := match P.underlying t with | some (.struct fs) => fs.toList.map (·.type) | _ => []
theorem f27 : fts Try.prog 27 = [22, 24, 25] := by kernel_rfl
theorem f24 : fts Try.prog 24 = [3, 3] := by kernel_rfl
theorem f57 : fts Try.prog 57 = [24, 3] := by kernel_rfl
theorem f69 : fts Try.prog 69 = [24, 3] := by kernel_rfl
theorem shp_int {cs : List U} (h : Shp Try.prog 3 cs) : ∃ n : Int, cs = [.int .i64 n] := by
  cases h with
  | int _ k n hu _ => rw [u3] at hu; cases hu; exact ⟨n, rfl⟩
  | bool _ _ hu => rw [u3] at hu; cases hu
  | str _ _ hu => rw [u3] at hu; cases hu
  | slice _ _ _ hu => rw [u3] at hu; cases hu
  | struct _ _ _ hu => rw [u3] at hu; cases hu
  | array _ _ _ _ hu => rw [u3] at hu; cases hu
/-- a struct, by its fields' types -/
theorem shp_fields {P : Program} {t : TypeId} {cs : List U} (h : Shp P t cs) (hne : fts P t ≠ []) : ∃ fs : List Field, fs.map (·.type) = fts P t ∧ ShpF P fs cs := by
  have no : ∀ {ty}, P.underlying t = some ty → (∀ fs, ty ≠ .struct fs) → False := fun hu hn => hne (by unfold fts; rw [hu]; split <;> simp_all)
  cases h with
  | struct _ fs _ hu hf => exact ⟨fs.toList, by unfold fts; rw [hu], hf⟩
  | int _ k n hu _ => exact (no hu (by intro fs h; cases h)).elim
  | bool _ _ hu => exact (no hu (by intro fs h; cases h)).elim
  | str _ _ hu => exact (no hu (by intro fs h; cases h)).elim
  | slice _ _ _ hu => exact (no hu (by intro fs h; cases h)).elim
  | array _ _ _ _ hu => exact (no hu (by intro fs h; cases h)).elim
theorem shpF_cons {P : Program} {fs : List Field} {t : TypeId} {ts : List TypeId} {cs : List U} (h : ShpF P fs cs) (e : fs.map (·.type) = t :: ts) : ∃ gs xs ys, cs = xs ++ ys ∧ Shp P t xs ∧ ShpF P gs ys ∧ gs.map (·.type) = ts := by
  cases h with
  | nil => cases e
  | cons f fs xs ys h1 h2 =>
    simp only [List.map_cons, List.cons.injEq] at e
    obtain ⟨rfl, rfl⟩ := e
    exact ⟨fs, xs, ys, rfl, h1, h2, rfl⟩
theorem shpF_nil {P : Program} {fs : List Field} {cs : List U} (h : ShpF P fs cs) (e : fs.map (·.type) = []) : cs = [] := by
  cases h with
  | nil => rfl
  | cons => cases e
theorem shp_span {cs : List U} (h : Shp Try.prog 24 cs) : ∃ a b : Int, cs = [.int .i64 a, .int .i64 b] := by
  obtain ⟨fs, e, hf⟩ := shp_fields h (by rw [f24]; simp)
  rw [f24] at e
  obtain ⟨g1, a1, b1, rfl, k1, r1, e1⟩ := shpF_cons hf e
  obtain ⟨g2, a2, b2, rfl, k2, r2, e2⟩ := shpF_cons r1 e1
  obtain rfl := shpF_nil r2 e2
  obtain ⟨x, rfl⟩ := shp_int k1
  obtain ⟨y, rfl⟩ := shp_int k2
  exact ⟨x, y, rfl⟩
theorem shp_tri {t : TypeId} (hft : fts Try.prog t = [24, 3]) {cs : List U} (h : Shp Try.prog t cs) : ∃ q : Tri, cs = [.int .i64 q.a, .int .i64 q.b, .int .i64 q.c] := by
  obtain ⟨fs, e, hf⟩ := shp_fields h (by rw [hft]; simp)
  rw [hft] at e
  obtain ⟨g1, a1, b1, rfl, k1, r1, e1⟩ := shpF_cons hf e
  obtain ⟨g2, a2, b2, rfl, k2, r2, e2⟩ := shpF_cons r1 e1
  obtain rfl := shpF_nil r2 e2
  obtain ⟨x, y, rfl⟩ := shp_span k1
  obtain ⟨z, rfl⟩ := shp_int k2
  exact ⟨⟨x, y, z⟩, rfl⟩
theorem shpL_map {P : Program} {e : TypeId} {α : Type} {f : α → List U} {css : List (List U)} (h : ShpL P e css) (k : ∀ cs, Shp P e cs → ∃ q, cs = f q) : ∃ l : List α, css = l.map f := by
  induction css with
  | nil => exact ⟨[], rfl⟩
  | cons cs css ih =>
    cases h with
    | cons _ _ _ h1 h2 =>
      obtain ⟨q, rfl⟩ := k _ h1
      obtain ⟨l, rfl⟩ := ih h2
      exact ⟨q :: l, rfl⟩
theorem shp_slice {P : Program} {t e : TypeId} {cs : List U} (hu : P.underlying t = some (.slice e)) (h : Shp P t cs) : ∃ css, ShpL P e css ∧ cs = [.lst .ro (P.cellsOf e) (css.map (eU P e))] := by
  cases h with
  | slice _ e' css hu' hl => rw [hu] at hu'; cases hu'; exact ⟨css, hl, rfl⟩
  | int _ k n hu' _ => rw [hu] at hu'; cases hu'
  | bool _ _ hu' => rw [hu] at hu'; cases hu'
  | str _ _ hu' => rw [hu] at hu'; cases hu'
  | struct _ _ _ hu' => rw [hu] at hu'; cases hu'
  | array _ _ _ _ hu' => rw [hu] at hu'; cases hu'
theorem eu57 : ∀ cs, eU Try.prog 57 cs = .agg cs := by
  obtain ⟨fs, h⟩ := und_struct (P := Try.prog) (t := 57) 2 (by kernel_rfl)
  intro cs; unfold eU; rw [h]
theorem eu69 : ∀ cs, eU Try.prog 69 cs = .agg cs := by
  obtain ⟨fs, h⟩ := und_struct (P := Try.prog) (t := 69) 2 (by kernel_rfl)
  intro cs; unfold eU; rw [h]
theorem eu3 : ∀ cs, eU Try.prog 3 cs = cs.headD .junk := by
  intro cs; unfold eU; rw [u3]
theorem map_tris {F : List U → U} (he : ∀ cs, F cs = .agg cs) (l : List Tri) : (l.map fun q : Tri => [U.int .i64 q.a, .int .i64 q.b, .int .i64 q.c]).map F = trisU l := by
  rw [List.map_map]
  exact List.map_congr_left fun q _ => he _
theorem map_ints {F : List U → U} (he : ∀ cs, F cs = cs.headD .junk) (l : List Int) : (l.map fun n : Int => [U.int .i64 n]).map F = intsU l := by
  rw [List.map_map]
  exact List.map_congr_left fun q _ => he _
theorem shp_tris {t e : TypeId} (hu : Try.prog.underlying t = some (.slice e)) (hc : Program.cellsOf Try.prog e = 3) (hft : fts Try.prog e = [24, 3]) (he : ∀ cs, eU Try.prog e cs = .agg cs) {cs : List U} (h : Shp Try.prog t cs) : ∃ l : List Tri, cs = [.lst .ro 3 (trisU l)] := by
  obtain ⟨css, hl, rfl⟩ := shp_slice hu h
  obtain ⟨l, rfl⟩ := shpL_map (f := fun q : Tri => [.int .i64 q.a, .int .i64 q.b, .int .i64 q.c]) hl fun cs hcs => shp_tri hft hcs
  refine ⟨l, ?_⟩
  rw [hc, map_tris he]
theorem shp_ints {cs : List U} (h : Shp Try.prog 38 cs) : ∃ l : List Int, cs = [.lst .ro 1 (intsU l)] := by
  obtain ⟨css, hl, rfl⟩ := shp_slice u38 h
  obtain ⟨l, rfl⟩ := shpL_map (f := fun n : Int => [.int .i64 n]) hl fun cs hcs => shp_int hcs
  refine ⟨l, ?_⟩
  rw [cl3, map_ints eu3]
theorem shp_shop {cs : List U} (h : Shp Try.prog 27 cs) : ∃ (t k : List Tri) (lo hi : Int), cs = [.lst .ro 3 (trisU t), .int .i64 lo, .int .i64 hi, .lst .ro 3 (trisU k)] := by
  obtain ⟨fs, e, hf⟩ := shp_fields h (by rw [f27]; simp)
  rw [f27] at e
  obtain ⟨g1, a1, b1, rfl, k1, r1, e1⟩ := shpF_cons hf e
  obtain ⟨g2, a2, b2, rfl, k2, r2, e2⟩ := shpF_cons r1 e1
  obtain ⟨g3, a3, b3, rfl, k3, r3, e3⟩ := shpF_cons r2 e2
  obtain rfl := shpF_nil r3 e3
  obtain ⟨t, rfl⟩ := shp_tris u22 cl57 f57 eu57 k1
  obtain ⟨lo, hi, rfl⟩ := shp_span k2
  obtain ⟨k, rfl⟩ := shp_tris u25 cl69 f69 eu69 k3
  exact ⟨t, k, lo, hi, rfl⟩
theorem shp_args {us : List U} (h : ShpAs Try.prog [27, 38] us) : ∃ (t k : List Tri) (lo hi : Int) (l : List Int), us = [shopU (trisU t) (trisU k) lo hi, .lst .ro 1 (intsU l)] := by
  cases h with
  | cons _ _ u us h1 h2 =>
    cases h2 with
    | cons _ _ v vs h3 h4 =>
      cases h4
      obtain ⟨fs, hu⟩ := und_struct (P := Try.prog) (t := 27) 3 (by kernel_rfl)
      unfold ShpA at h1 h3
      rw [hu] at h1
      rw [u38] at h3
      obtain ⟨cs, rfl, h1⟩ := h1
      obtain ⟨t, k, lo, hi, rfl⟩ := shp_shop h1
      obtain ⟨l, e⟩ := shp_ints h3
      cases e
      exact ⟨t, k, lo, hi, l, rfl⟩
theorem ret6_all {is : FuncId → Bool} {orc : Known} (hi : ∀ f, Nat.beq f 21 = false → is f = false) (r21 : RetP Try.prog is orc 21 [] (.bool true)) : ∀ us, ShpAs Try.prog [27, 38] us → RetP Try.prog is orc 6 us (.bool true) := by
  intro us h
  obtain ⟨t, k, lo, hi', l, rfl⟩ := shp_args h
  have r33 := ret33 (orc := orc) (hi 33 rfl) (hi 68 rfl) (hi 50 rfl) (hi 66 rfl) (hi 17 rfl) (hi 56 rfl) (hi 72 rfl) (hi 73 rfl) (hi 74 rfl) (hi 75 rfl) (hi 80 rfl) t k lo hi' l
  have r34 := ret34 (orc := orc) (hi 34 rfl) (hi 52 rfl) (hi 18 rfl) (hi 57 rfl) (hi 38 rfl) (hi 39 rfl) t k lo hi' l
  obtain ⟨L, e, he, b1, b2⟩ := toldR_rows (askedR (refCheckR t k lo hi') (heardOk l)) t l (fun h1 => by
    obtain ⟨q1, q2⟩ := asked_ok h1
    unfold heardOk at q1
    simp only [Bool.and_eq_true, decide_eq_true_eq] at q1
    exact ⟨by omega, q1.1.2⟩)
  rw [he] at r33 r34
  exact ret6 (hi 6 rfl) (hi 35 rfl) (hi 26 rfl) t k lo hi' l b1 b2 r33 r34 r21
end Go.Proofs.Ytolfmdodgfjhdaa.raspTolds
