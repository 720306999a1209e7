/- forge's functions, one by one, by the logic of trees: what each gives back for all that it may be given. -/
import Derived.Test.YtniplfmjbjjocaaVamQ
import Derived.Test.YtniplfmjbjjocaaProg
import Derived.KernelRfl
namespace Go.Proofs.Ytniplfmjbjjocaa.forgeHeats
open Vam
set_option linter.unusedVariables false
set_option linter.unusedSimpArgs false
set_option linter.constructorNameAsVariable false
variable {is : FuncId → Bool} {orc : Known}
theorem fld24_0 : fieldOf Try.prog 24 0 = some (0, 3) := by kernel_rfl
theorem fld24_1 : fieldOf Try.prog 24 1 = some (1, 3) := by kernel_rfl
theorem pl24 : plcOf Try.prog 24 = some [(0, 1), (1, 1)] := by kernel_rfl
theorem sh24 : shOf Try.prog 24 = .many 2 := by kernel_rfl
theorem sh3 : shOf Try.prog 3 = .one := by kernel_rfl
theorem ze24 : zeroL Try.prog 24 = some ((.cons (.int .i64 0) (.cons (.int .i64 0) .nil)) : V) := by kernel_rfl
theorem dat_l1 {k : Nat} {a : U} (h : Dat k a) : ∀ v ∈ [a], Dat k v := fun v hv => by
  simp only [List.mem_cons, List.not_mem_nil, or_false] at hv
  subst hv; exact h
theorem dat_l2 {k : Nat} {a b : U} (h : Dat k a) (h2 : Dat k b) : ∀ v ∈ [a, b], Dat k v := fun v hv => by
  simp only [List.mem_cons, List.not_mem_nil, or_false] at hv
  rcases hv with rfl | rfl <;> assumption
theorem dat_l3 {k : Nat} {a b c : U} (h : Dat k a) (h2 : Dat k b) (h3 : Dat k c) : ∀ v ∈ [a, b, c], Dat k v := fun v hv => by
  simp only [List.mem_cons, List.not_mem_nil, or_false] at hv
  rcases hv with rfl | rfl | rfl <;> assumption
abbrev spanU (a b : Int) : U := .agg [.int .i64 a, .int .i64 b]
theorem dat_span (a b : Int) (k : Nat) : Dat (k + 2) (spanU a b) := .agg _ _ (dat_l2 (.int _ _ _) (.int _ _ _))
theorem flat_span (a b : Int) : FlatU (spanU a b) := .agg _ fun c hc => by
  simp only [List.mem_cons, List.not_mem_nil, or_false] at hc
  rcases hc with rfl | rfl <;> exact .int _ _
structure Tri where
  a : Int
  b : Int
  c : Int
abbrev Tri.u (q : Tri) : U := .agg [.int .i64 q.a, .int .i64 q.b, .int .i64 q.c]
abbrev trisU (l : List Tri) : List U := l.map Tri.u
structure Two where
  a : Int
  b : Int
abbrev Two.u (q : Two) : U := spanU q.a q.b
abbrev twosU (l : List Two) : List U := l.map Two.u
structure Bnd where
  a : Int
  b : Int
  lo : Int
  hi : Int
abbrev Bnd.u (q : Bnd) : U := .agg [.int .i64 q.a, .int .i64 q.b, .int .i64 q.lo, .int .i64 q.hi]
abbrev bndsU (l : List Bnd) : List U := l.map Bnd.u
def Bnd.ok (q : Bnd) : Bool := decide (q.a ≤ q.b) && decide (q.lo ≤ q.a) && decide (q.b ≤ q.hi)
theorem dat_tris (l : List Tri) (kd : Kd) (hk : kd ≠ .own) (k : Nat) : Dat (k + 2) (.lst kd 3 (trisU l)) := by
  refine .lst _ _ _ _ hk fun c hc => ?_
  obtain ⟨e, h1, h2⟩ := List.mem_flatMap.1 hc
  obtain ⟨q, _, rfl⟩ := List.mem_map.1 h1
  exact dat_l3 (.int _ _ _) (.int _ _ _) (.int _ _ _) c h2
theorem dat_twos (l : List Two) (kd : Kd) (hk : kd ≠ .own) (k : Nat) : Dat (k + 2) (.lst kd 2 (twosU l)) := by
  refine .lst _ _ _ _ hk fun c hc => ?_
  obtain ⟨e, h1, h2⟩ := List.mem_flatMap.1 hc
  obtain ⟨q, _, rfl⟩ := List.mem_map.1 h1
  exact dat_l2 (.int _ _ _) (.int _ _ _) c h2
theorem dat_bnds (l : List Bnd) (kd : Kd) (hk : kd ≠ .own) (k : Nat) : Dat (k + 2) (.lst kd 4 (bndsU l)) := by
  refine .lst _ _ _ _ hk fun c hc => ?_
  obtain ⟨e, h1, h2⟩ := List.mem_flatMap.1 hc
  obtain ⟨q, _, rfl⟩ := List.mem_map.1 h1
  have h2 : c ∈ [U.int .i64 q.a, .int .i64 q.b, .int .i64 q.lo, .int .i64 q.hi] := h2
  simp only [List.mem_cons, List.not_mem_nil, or_false] at h2
  rcases h2 with rfl | rfl | rfl | rfl <;> exact .int _ _ _
theorem all_take {α : Type} {p : α → Bool} {l : List α} {n : Nat} {x : α} (h : l[n]? = some x) (h1 : (l.take n).all p = true) (h2 : p x = true) : (l.take (n + 1)).all p = true := by
  rw [List.take_add_one, List.all_append, h1, h]
  simpa using h2
theorem all_not {α : Type} {p : α → Bool} {l : List α} {n : Nat} {x : α} (h : l[n]? = some x) (h2 : p x = false) : l.all p = false := by
  rw [List.all_eq_false]
  exact ⟨x, List.mem_of_getElem? h, by simp [h2]⟩
structure Bk where
  lots : List Tri
  tlo : Int
  thi : Int
  thick : Int
  crack : Int
  glo : Int
  ghi : Int
  thins : List Two
  hot : Int
  least : Int
  clo : Int
  chi : Int
  coal : Int
  looks : List Tri
abbrev Bk.u (b : Bk) : U := .agg [.lst .ro 3 (trisU b.lots), .int .i64 b.tlo, .int .i64 b.thi, .int .i64 b.thick, .int .i64 b.crack, .int .i64 b.glo, .int .i64 b.ghi, .lst .ro 2 (twosU b.thins), .int .i64 b.hot, .int .i64 b.least, .int .i64 b.clo, .int .i64 b.chi, .int .i64 b.coal, .lst .ro 3 (trisU b.looks)]
theorem dat_bk (b : Bk) (n : Nat) : Dat (n + 3) b.u := .agg _ _ fun c hc => by
  simp only [List.mem_cons, List.not_mem_nil, or_false] at hc
  rcases hc with rfl | rfl | rfl | rfl | rfl | rfl | rfl | rfl | rfl | rfl | rfl | rfl | rfl | rfl <;> first | exact .int _ _ _ | exact dat_tris _ _ (fun h => by cases h) _ | exact dat_twos _ _ (fun h => by cases h) _
abbrev Off (is : FuncId → Bool) : Prop := ∀ f, f ≠ 8 → is f = false

-- 54 saron/forge.only params [3] pure True
noncomputable def b54 : Code := (Try.f54.body).getD .skip
theorem body54 : bodyOf Try.prog 54 = some (6, b54, [.cell 2 24]) := by kernel_rfl
theorem pure54 : pureFn Try.prog 54 = true := by kernel_rfl
set_option maxHeartbeats 4000000 in
theorem ret54 (hi : Off is) (n : Int) : RetP Try.prog is orc 54 [.int .i64 n] (spanU n n) := by
  refine ret_of body54 pure54 (hi 54 (by decide)) rfl rfl (dat_l1 (.int _ _ _)) (.inl (dat_span _ _ _)) ?_
  refine k_seq ?_
  refine k_region ?_   -- region 0 span.go:7
  refine o_alloc rfl ze24 ?_
  refine o_nil ?_
  refine k_seq ?_
  refine k_region ?_   -- region 1 span.go:7
  refine o_move rfl ?_
  refine o_move rfl ?_
  refine o_build rfl ze24 pl24 rfl rfl ?_
  refine o_storeN rfl rfl sh24 rfl rfl rfl rfl rfl ?_
  refine o_nil ?_
  refine k_ret ?_
  refine ⟨.inr rfl, _, .cons _ _ _ _ (.cellN 2 24 _ _ _ _ rfl rfl sh24 rfl) .nil, ?_⟩
  exact .refl _

-- 12 saron/saronref00.Band params [3, 3] pure True
noncomputable def b12 : Code := (Try.f12.body).getD .skip
theorem body12 : bodyOf Try.prog 12 = some (8, b12, [.cell 4 24]) := by kernel_rfl
theorem pure12 : pureFn Try.prog 12 = true := by kernel_rfl
set_option maxHeartbeats 4000000 in
theorem ret12 (hi : Off is) (a b : Int) : RetP Try.prog is orc 12 [.int .i64 a, .int .i64 b] (spanU a b) := by
  refine ret_of body12 pure12 (hi 12 (by decide)) rfl rfl (dat_l2 (.int _ _ _) (.int _ _ _)) (.inl (dat_span _ _ _)) ?_
  refine k_seq ?_
  refine k_region ?_   -- region 0 base.go:46
  refine o_alloc rfl ze24 ?_
  refine o_nil ?_
  refine k_seq ?_
  refine k_region ?_   -- region 1 base.go:46
  refine o_move rfl ?_
  refine o_move rfl ?_
  refine o_build rfl ze24 pl24 rfl rfl ?_
  refine o_storeN rfl rfl sh24 rfl rfl rfl rfl rfl ?_
  refine o_nil ?_
  refine k_ret ?_
  refine ⟨.inr rfl, _, .cons _ _ _ _ (.cellN 4 24 _ _ _ _ rfl rfl sh24 rfl) .nil, ?_⟩
  exact .refl _

-- 15 saron/saronref00.Sits params [3, 3, 3] pure True
noncomputable def b15 : Code := (Try.f15.body).getD .skip
theorem body15 : bodyOf Try.prog 15 = some (15, b15, [.tmp 6]) := by kernel_rfl
theorem pure15 : pureFn Try.prog 15 = true := by kernel_rfl
set_option maxHeartbeats 4000000 in
theorem ret15 (hi : Off is) (n lo up : Int) : RetP Try.prog is orc 15 [.int .i64 n, .int .i64 lo, .int .i64 up] (.bool (decide (lo ≤ n) && decide (n ≤ up))) := by
  refine ret_of body15 pure15 (hi 15 (by decide)) rfl rfl (dat_l3 (.int _ _ _) (.int _ _ _) (.int _ _ _)) (.inl (.bool _ _)) ?_
  refine k_seq ?_
  refine k_region ?_   -- region 0 base.go:9
  refine o_assign rfl ?_
  refine o_nil ?_
  refine k_seq ?_
  refine k_region ?_   -- region 1 base.go:9
  refine o_move rfl ?_
  refine o_move rfl ?_
  refine o_leq rfl rfl rfl ?_
  refine o_move rfl ?_
  refine o_guard rfl rfl rfl rfl (fun h1 => ?_) (fun h1 => ?_)   -- slot 10
  · refine o_move rfl ?_
    refine o_guard rfl rfl rfl rfl (fun _ => ?_) (fun h => by rw [h1] at h; cases h)
    refine o_move rfl ?_
    refine o_guard rfl rfl rfl rfl (fun _ => ?_) (fun h => by rw [h1] at h; cases h)
    refine o_leq rfl rfl rfl ?_
    refine o_pickT rfl rfl h1 ?_
    refine o_assign rfl ?_
    refine o_nil ?_
    refine k_ret ?_
    refine ⟨.inr rfl, _, .cons _ _ _ _ (.tmp 6) .nil, ?_⟩
    rw [h1]; exact .refl _
  · refine o_guard rfl rfl rfl rfl (fun h => by rw [h1] at h; cases h) (fun _ => ?_)
    refine o_guard rfl rfl rfl rfl (fun h => by rw [h1] at h; cases h) (fun _ => ?_)
    refine o_pickF rfl rfl h1 ?_
    refine o_assign rfl ?_
    refine o_nil ?_
    refine k_ret ?_
    refine ⟨.inr rfl, _, .cons _ _ _ _ (.tmp 6) .nil, ?_⟩
    rw [h1]; exact .refl _

-- 23 saron/saronref00.Good params [24, 3, 3] pure True
noncomputable def b23 : Code := (Try.f23.body).getD .skip
theorem body23 : bodyOf Try.prog 23 = some (24, b23, [.tmp 6]) := by kernel_rfl
theorem pure23 : pureFn Try.prog 23 = true := by kernel_rfl
set_option maxHeartbeats 4000000 in
theorem ret23 (hi : Off is) (a b lo up : Int) : RetP Try.prog is orc 23 [spanU a b, .int .i64 lo, .int .i64 up] (.bool (decide (lo ≤ a) && (decide (a ≤ b) && decide (b ≤ up)))) := by
  refine ret_of body23 pure23 (hi 23 (by decide)) rfl rfl (dat_l3 (dat_span _ _ _) (.int _ _ _) (.int _ _ _)) (.inl (.bool _ _)) ?_
  refine k_seq ?_
  refine k_region ?_   -- region 0 base.go:52
  refine o_box rfl rfl ?_
  refine o_assign rfl ?_
  refine o_nil ?_
  refine k_seq ?_
  refine k_region ?_   -- region 1 base.go:53
  refine o_move rfl ?_
  first | refine o_faddr rfl rfl fld24_0 ?_ | refine o_faddrR rfl rfl fld24_0 ?_
  first | refine o_load1 rfl rfl rfl sh3 rfl ?_ | refine o_loadR1 rfl rfl sh3 rfl ?_
  refine o_leq rfl rfl rfl ?_
  refine o_move rfl ?_
  refine o_guard rfl rfl rfl rfl (fun h1 => ?_) (fun h1 => ?_)   -- slot 11
  · first | refine o_faddr rfl rfl fld24_0 ?_ | refine o_faddrR rfl rfl fld24_0 ?_
    refine o_guard rfl rfl rfl rfl (fun _ => ?_) (fun h => by rw [h1] at h; cases h)
    first | refine o_load1 rfl rfl rfl sh3 rfl ?_ | refine o_loadR1 rfl rfl sh3 rfl ?_
    refine o_guard rfl rfl rfl rfl (fun _ => ?_) (fun h => by rw [h1] at h; cases h)
    first | refine o_faddr rfl rfl fld24_1 ?_ | refine o_faddrR rfl rfl fld24_1 ?_
    refine o_guard rfl rfl rfl rfl (fun _ => ?_) (fun h => by rw [h1] at h; cases h)
    first | refine o_load1 rfl rfl rfl sh3 rfl ?_ | refine o_loadR1 rfl rfl sh3 rfl ?_
    refine o_guard rfl rfl rfl rfl (fun _ => ?_) (fun h => by rw [h1] at h; cases h)
    refine o_leq rfl rfl rfl ?_
    refine o_pickT rfl rfl h1 ?_
    refine o_move rfl ?_
    refine o_guard rfl rfl rfl rfl (fun h2 => ?_) (fun h2 => ?_)   -- slot 18
    · first | refine o_faddr rfl rfl fld24_1 ?_ | refine o_faddrR rfl rfl fld24_1 ?_
      refine o_guard rfl rfl rfl rfl (fun _ => ?_) (fun h => by rw [h2] at h; cases h)
      first | refine o_load1 rfl rfl rfl sh3 rfl ?_ | refine o_loadR1 rfl rfl sh3 rfl ?_
      refine o_guard rfl rfl rfl rfl (fun _ => ?_) (fun h => by rw [h2] at h; cases h)
      refine o_move rfl ?_
      refine o_guard rfl rfl rfl rfl (fun _ => ?_) (fun h => by rw [h2] at h; cases h)
      refine o_leq rfl rfl rfl ?_
      refine o_pickT rfl rfl h2 ?_
      refine o_assign rfl ?_
      refine o_nil ?_
      refine k_ret ?_
      refine ⟨.inr rfl, _, .cons _ _ _ _ (.tmp 6) .nil, ?_⟩
      rw [h1, h2]; exact .refl _
    · refine o_guard rfl rfl rfl rfl (fun h => by rw [h2] at h; cases h) (fun _ => ?_)
      refine o_guard rfl rfl rfl rfl (fun h => by rw [h2] at h; cases h) (fun _ => ?_)
      refine o_guard rfl rfl rfl rfl (fun h => by rw [h2] at h; cases h) (fun _ => ?_)
      refine o_pickF rfl rfl h2 ?_
      refine o_assign rfl ?_
      refine o_nil ?_
      refine k_ret ?_
      refine ⟨.inr rfl, _, .cons _ _ _ _ (.tmp 6) .nil, ?_⟩
      rw [h1, h2]; exact .refl _
  · refine o_guard rfl rfl rfl rfl (fun h => by rw [h1] at h; cases h) (fun _ => ?_)
    refine o_guard rfl rfl rfl rfl (fun h => by rw [h1] at h; cases h) (fun _ => ?_)
    refine o_guard rfl rfl rfl rfl (fun h => by rw [h1] at h; cases h) (fun _ => ?_)
    refine o_guard rfl rfl rfl rfl (fun h => by rw [h1] at h; cases h) (fun _ => ?_)
    refine o_pickF rfl rfl h1 ?_
    refine o_move rfl ?_
    refine o_guard rfl rfl rfl rfl (fun h => by cases h) (fun _ => ?_)
    refine o_guard rfl rfl rfl rfl (fun h => by cases h) (fun _ => ?_)
    refine o_guard rfl rfl rfl rfl (fun h => by cases h) (fun _ => ?_)
    refine o_guard rfl rfl rfl rfl (fun h => by cases h) (fun _ => ?_)
    refine o_pickF rfl rfl rfl ?_
    refine o_assign rfl ?_
    refine o_nil ?_
    refine k_ret ?_
    refine ⟨.inr rfl, _, .cons _ _ _ _ (.tmp 6) .nil, ?_⟩
    rw [h1]; exact .refl _

-- 38 saron/forge.within params [24, 3] pure True
noncomputable def b38 : Code := (Try.f38.body).getD .skip
theorem body38 : bodyOf Try.prog 38 = some (15, b38, [.tmp 4]) := by kernel_rfl
theorem pure38 : pureFn Try.prog 38 = true := by kernel_rfl
set_option maxHeartbeats 4000000 in
theorem ret38 (hi : Off is) (a b n : Int) : RetP Try.prog is orc 38 [spanU a b, .int .i64 n] (.bool (decide (a ≤ n) && decide (n ≤ b))) := by
  refine ret_of body38 pure38 (hi 38 (by decide)) rfl rfl (dat_l2 (dat_span _ _ _) (.int _ _ _)) (.inl (.bool _ _)) ?_
  refine k_seq ?_
  refine k_region ?_   -- region 0 span.go:5
  refine o_box rfl rfl ?_
  refine o_assign rfl ?_
  refine o_nil ?_
  refine k_seq ?_
  refine k_region ?_   -- region 1 span.go:5
  first | refine o_faddr rfl rfl fld24_0 ?_ | refine o_faddrR rfl rfl fld24_0 ?_
  first | refine o_load1 rfl rfl rfl sh3 rfl ?_ | refine o_loadR1 rfl rfl sh3 rfl ?_
  refine o_move rfl ?_
  refine o_leq rfl rfl rfl ?_
  refine o_move rfl ?_
  refine o_guard rfl rfl rfl rfl (fun h1 => ?_) (fun h1 => ?_)   -- slot 9
  · refine o_move rfl ?_
    refine o_guard rfl rfl rfl rfl (fun _ => ?_) (fun h => by rw [h1] at h; cases h)
    first | refine o_faddr rfl rfl fld24_1 ?_ | refine o_faddrR rfl rfl fld24_1 ?_
    refine o_guard rfl rfl rfl rfl (fun _ => ?_) (fun h => by rw [h1] at h; cases h)
    first | refine o_load1 rfl rfl rfl sh3 rfl ?_ | refine o_loadR1 rfl rfl sh3 rfl ?_
    refine o_guard rfl rfl rfl rfl (fun _ => ?_) (fun h => by rw [h1] at h; cases h)
    refine o_leq rfl rfl rfl ?_
    refine o_pickT rfl rfl h1 ?_
    refine o_assign rfl ?_
    refine o_nil ?_
    refine k_ret ?_
    refine ⟨.inr rfl, _, .cons _ _ _ _ (.tmp 4) .nil, ?_⟩
    rw [h1]; exact .refl _
  · refine o_guard rfl rfl rfl rfl (fun h => by rw [h1] at h; cases h) (fun _ => ?_)
    refine o_guard rfl rfl rfl rfl (fun h => by rw [h1] at h; cases h) (fun _ => ?_)
    refine o_guard rfl rfl rfl rfl (fun h => by rw [h1] at h; cases h) (fun _ => ?_)
    refine o_pickF rfl rfl h1 ?_
    refine o_assign rfl ?_
    refine o_nil ?_
    refine k_ret ?_
    refine ⟨.inr rfl, _, .cons _ _ _ _ (.tmp 4) .nil, ?_⟩
    rw [h1]; exact .refl _

-- 36 saron/forge.isBlows params [3] pure True
noncomputable def b36 : Code := (Try.f36.body).getD .skip
theorem body36 : bodyOf Try.prog 36 = some (6, b36, [.tmp 2]) := by kernel_rfl
theorem pure36 : pureFn Try.prog 36 = true := by kernel_rfl
set_option maxHeartbeats 4000000 in
theorem ret36 (hi : Off is) (n : Int) : RetP Try.prog is orc 36 [.int .i64 n] (.bool (decide (0 ≤ n) && decide (n ≤ 300))) := by
  refine ret_of body36 pure36 (hi 36 (by decide)) rfl rfl (dat_l1 (.int _ _ _)) (.inl (.bool _ _)) ?_
  refine k_seq ?_
  refine k_region ?_   -- region 0 forge.go:166
  refine o_assign rfl ?_
  refine o_nil ?_
  refine k_seq ?_
  refine k_region ?_   -- region 1 forge.go:166
  refine o_build rfl ze24 pl24 rfl rfl ?_
  refine o_move rfl ?_
  refine o_call rfl (ret38 hi 0 300 n) (.lrefl _) ?_
  refine o_assign rfl ?_
  refine o_nil ?_
  refine k_ret ?_
  refine ⟨.inr rfl, _, .cons _ _ _ _ (.tmp 2) .nil, ?_⟩
  exact .refl _

theorem tmod_neg_lt {a m : Int} (hm : 0 < m) : -m < a.tmod m ∧ a.tmod m < m := by
  have h1 := Int.tmod_lt_of_pos a hm
  have h2 : -(m) < a.tmod m := by
    have := Int.tmod_lt_of_pos (-a) hm
    rw [Int.neg_tmod] at this
    omega
  exact ⟨h2, h1⟩
theorem turn_neg {n m : Int} (hm : 0 < m) (h : n.tmod m < 0) : n.tmod m + m = n % m := by
  have p1 := Int.emod_nonneg n (show m ≠ 0 by omega)
  have p2 := Int.emod_lt_of_pos n hm
  have p3 := @Int.emod_eq_tmod n m
  split at p3 <;> omega
theorem turn_pos {n m : Int} (hm : 0 < m) (h : 0 ≤ n.tmod m) : n.tmod m = n % m := by
  have p1 := Int.emod_nonneg n (show m ≠ 0 by omega)
  have p2 := Int.emod_lt_of_pos n hm
  have p3 := @Int.emod_eq_tmod n m
  split at p3 <;> omega

-- 11 saron/saronref00.Turn params [3, 3] pure True
noncomputable def b11 : Code := (Try.f11.body).getD .skip
theorem body11 : bodyOf Try.prog 11 = some (17, b11, [.tmp 4]) := by kernel_rfl
theorem pure11 : pureFn Try.prog 11 = true := by kernel_rfl
set_option maxHeartbeats 4000000 in
theorem ret11 (hi : Off is) (n m : Int) (hm : 0 < m) (hb : m ≤ 4611686018427387904) : RetP Try.prog is orc 11 [.int .i64 n, .int .i64 m] (.int .i64 (n % m)) := by
  refine ret_of body11 pure11 (hi 11 (by decide)) rfl rfl (dat_l2 (.int _ _ _) (.int _ _ _)) (.inl (.int _ _ _)) ?_
  refine k_seq ?_
  refine k_region ?_   -- region 0 base.go:12
  refine o_assign rfl ?_
  refine o_nil ?_
  refine k_seq ?_
  refine k_seq ?_
  refine k_region ?_   -- region 1 base.go:13
  refine o_move rfl ?_
  refine o_lss rfl rfl rfl ?_
  refine o_nil ?_
  refine k_cond rfl (fun h1 => ?_) (fun h1 => ?_)   -- slot 7
  · refine k_seq ?_
    refine k_region ?_   -- region 2 base.go:14
    refine o_assign rfl ?_
    refine o_nil ?_
    refine k_ret ?_
    refine ⟨.inr rfl, _, .cons _ _ _ _ (.tmp 4) .nil, ?_⟩
    exact absurd (of_decide_eq_true h1) (by omega)
  · refine k_skip ?_
    refine k_seq ?_
    refine k_region ?_   -- region 3 base.go:16
    refine o_move rfl ?_
    refine o_move rfl ?_
    refine o_rem rfl rfl rfl (by omega) ?_
    refine o_assign rfl ?_
    refine o_nil ?_
    refine k_seq ?_
    refine k_seq ?_
    refine k_region ?_   -- region 4 base.go:17
    refine o_move rfl ?_
    refine o_lss rfl rfl rfl ?_
    refine o_nil ?_
    refine k_cond rfl (fun h2 => ?_) (fun h2 => ?_)   -- slot 12
    · refine k_region ?_   -- region 5 base.go:18
      refine o_move rfl ?_
      refine o_move rfl ?_
      refine o_add rfl rfl rfl (by have := tmod_neg_lt (a := n) hm; unfold I64; omega) ?_
      refine o_assign rfl ?_
      refine o_nil ?_
      refine k_seq ?_
      refine k_region ?_   -- region 6 base.go:20
      refine o_move rfl ?_
      refine o_assign rfl ?_
      refine o_nil ?_
      refine k_ret ?_
      refine ⟨.inr rfl, _, .cons _ _ _ _ (.tmp 4) .nil, ?_⟩
      rw [show n.tmod m + m = n % m from turn_neg hm (of_decide_eq_true h2)]; exact .refl _
    · refine k_skip ?_
      refine k_seq ?_
      refine k_region ?_   -- region 6 base.go:20
      refine o_move rfl ?_
      refine o_assign rfl ?_
      refine o_nil ?_
      refine k_ret ?_
      refine ⟨.inr rfl, _, .cons _ _ _ _ (.tmp 4) .nil, ?_⟩
      rw [show n.tmod m = n % m from turn_pos hm (by have := of_decide_eq_false h2; omega)]; exact .refl _

abbrev Bk.cs (b : Bk) : List U := [.lst .ro 3 (trisU b.lots), .int .i64 b.tlo, .int .i64 b.thi, .int .i64 b.thick, .int .i64 b.crack, .int .i64 b.glo, .int .i64 b.ghi, .lst .ro 2 (twosU b.thins), .int .i64 b.hot, .int .i64 b.least, .int .i64 b.clo, .int .i64 b.chi, .int .i64 b.coal, .lst .ro 3 (trisU b.looks)]
theorem by97 : Program.bytesOf Try.prog 97 = 32 := by kernel_rfl
theorem cl24 : Program.cellsOf Try.prog 24 = 2 := by kernel_rfl
theorem cl39 : Program.cellsOf Try.prog 39 = 3 := by kernel_rfl
theorem cl49 : Program.cellsOf Try.prog 49 = 3 := by kernel_rfl
theorem cl97 : Program.cellsOf Try.prog 97 = 4 := by kernel_rfl
theorem fld28_0 : fieldOf Try.prog 28 0 = some (0, 22) := by kernel_rfl
theorem fld28_10 : fieldOf Try.prog 28 10 = some (13, 26) := by kernel_rfl
theorem fld28_5 : fieldOf Try.prog 28 5 = some (7, 25) := by kernel_rfl
theorem fld39_0 : fieldOf Try.prog 39 0 = some (0, 3) := by kernel_rfl
theorem fld39_1 : fieldOf Try.prog 39 1 = some (1, 24) := by kernel_rfl
theorem fld49_0 : fieldOf Try.prog 49 0 = some (0, 3) := by kernel_rfl
theorem fld49_1 : fieldOf Try.prog 49 1 = some (1, 3) := by kernel_rfl
theorem fld49_2 : fieldOf Try.prog 49 2 = some (2, 3) := by kernel_rfl
theorem fld97_0 : fieldOf Try.prog 97 0 = some (0, 24) := by kernel_rfl
theorem fld97_1 : fieldOf Try.prog 97 1 = some (2, 3) := by kernel_rfl
theorem fld97_2 : fieldOf Try.prog 97 2 = some (3, 3) := by kernel_rfl
theorem pl97 : plcOf Try.prog 97 = some [(0, 2), (2, 1), (3, 1)] := by kernel_rfl
theorem sh22 : shOf Try.prog 22 = .one := by kernel_rfl
theorem sh25 : shOf Try.prog 25 = .one := by kernel_rfl
theorem sh26 : shOf Try.prog 26 = .one := by kernel_rfl
theorem sh39 : shOf Try.prog 39 = .many 3 := by kernel_rfl
theorem sh49 : shOf Try.prog 49 = .many 3 := by kernel_rfl
theorem sh97 : shOf Try.prog 97 = .many 4 := by kernel_rfl
theorem ty22 : tyOf Try.prog 22 = .slice 39 := by kernel_rfl
theorem ty25 : tyOf Try.prog 25 = .slice 24 := by kernel_rfl
theorem ty26 : tyOf Try.prog 26 = .slice 49 := by kernel_rfl
theorem ty98 : tyOf Try.prog 98 = .slice 97 := by kernel_rfl
theorem ze39 : zeroL Try.prog 39 = some ((.cons (.int .i64 0) (.cons (.int .i64 0) (.cons (.int .i64 0) .nil))) : V) := by kernel_rfl
theorem ze49 : zeroL Try.prog 49 = some ((.cons (.int .i64 0) (.cons (.int .i64 0) (.cons (.int .i64 0) .nil))) : V) := by kernel_rfl
theorem ze97 : zeroL Try.prog 97 = some ((.cons (.int .i64 0) (.cons (.int .i64 0) (.cons (.int .i64 0) (.cons (.int .i64 0) .nil)))) : V) := by kernel_rfl
theorem ap98_98 : AppT Try.prog 98 98 97 4 32 ((.cons (.int .i64 0) (.cons (.int .i64 0) (.cons (.int .i64 0) (.cons (.int .i64 0) .nil)))) : V) := ⟨ty98, ⟨_, ty98⟩, cl97, by decide, by97, ze97, rfl⟩
theorem at_old {l : List SB} {a : Nat} {x y : SB} (h : l[a]? = some x) : (l ++ [y])[a]? = some x := by
  rw [List.getElem?_append_left (List.getElem?_eq_some_iff.1 h).1]; exact h
theorem at_old2 {l : List SB} {a : Nat} {x y z : SB} (h : l[a]? = some x) : ((l ++ [y]).set l.length z)[a]? = some x := by
  have ha := (List.getElem?_eq_some_iff.1 h).1
  rw [List.getElem?_set_ne (by omega)]; exact at_old h
def bnd1 (q : Tri) : List Bnd := [⟨q.a, q.a, 0, 6⟩, ⟨q.b, q.c, 0, 1000⟩]
def bnd2 (q : Two) : List Bnd := [⟨q.a, q.b, 1, 20⟩]
def bnd3 (q : Tri) : List Bnd := [⟨q.a, q.a, 0, 300⟩, ⟨q.b, q.b, 0, 3000⟩, ⟨q.c, q.c, 0, 50⟩]
theorem snoc_bnds {α : Type} (f : α → List Bnd) (pre : List Bnd) {l : List α} {n : Nat} {q : α} (h : l[n]? = some q) : bndsU (pre ++ (l.take n).flatMap f) ++ (f q).map Bnd.u = bndsU (pre ++ (l.take (n + 1)).flatMap f) := by
  rw [List.take_add_one, h]
  simp [bndsU]
theorem flat_le {α : Type} (f : α → List Bnd) (c : Nat) (hf : ∀ q, (f q).length = c) (l : List α) (n : Nat) : ((l.take n).flatMap f).length ≤ c * l.length := by
  induction l generalizing n with
  | nil => simp
  | cons q l ih =>
    cases n with
    | zero => simp
    | succ n =>
      simp only [List.take_succ_cons, List.flatMap_cons, List.length_append, hf, List.length_cons]
      have := ih n
      rw [Nat.mul_succ]; omega
def bndsL (b : Bk) : List Bnd := b.lots.flatMap bnd1 ++ b.thins.flatMap bnd2 ++ b.looks.flatMap bnd3

-- 59 saron/forge.lie params [98] pure True
noncomputable def b59 : Code := (Try.f59.body).getD .skip
theorem body59 : bodyOf Try.prog 59 = some (35, b59, [.tmp 2]) := by kernel_rfl
theorem pure59 : pureFn Try.prog 59 = true := by kernel_rfl
set_option maxHeartbeats 4000000 in
theorem ret59 (hi : Off is) (l : List Bnd) (hb : l.length ≤ 4096) : RetP Try.prog is orc 59 [.lst .ro 4 (bndsU l)] (.bool (l.all Bnd.ok)) := by
  refine ret_of body59 pure59 (hi 59 (by decide)) rfl rfl (dat_l1 (dat_bnds l .ro (fun h => by cases h) 6)) (.inl (.bool _ _)) ?_
  refine k_seq ?_
  refine k_region ?_   -- region 0 book.go:33
  refine o_assign rfl ?_
  refine o_nil ?_
  refine k_seq ?_
  refine k_seq ?_
  refine k_region ?_   -- region 1 book.go:34
  refine o_move rfl ?_
  refine o_len rfl ty98 rfl rfl ?_
  refine o_move rfl ?_
  refine o_nil ?_
  refine k_block ?_
  -- LOOP 1
  refine k_loop (fun k s => ∃ n : Nat, k + n = l.length ∧ (l.take n).all Bnd.ok = true ∧ Holds s [(5, .lst .ro 4 (bndsU l)), (6, .int .i64 (bndsU l).length), (7, .int .i64 n)]) (fun k s hI => ?_) l.length _ ?_
  · obtain ⟨n, hk, ho, hs⟩ := hI
    rw [hs.eq]
    refine k_seq ?_
    refine k_region ?_   -- region 2 book.go:34
    refine o_lss rfl rfl rfl ?_
    refine o_nil ?_
    refine k_seq ?_
    refine k_cond rfl (fun h1 => ?_) (fun h1 => ?_)   -- slot 8
    · have h3' : n < l.length := by
        have := of_decide_eq_true h1
        simp at this; omega
      obtain ⟨q, hq⟩ : ∃ q, l[n]? = some q := ⟨l[n], List.getElem?_eq_getElem h3'⟩
      refine k_skip ?_
      refine k_seq ?_
      refine k_block ?_
      refine k_seq ?_
      refine k_region ?_   -- region 3 book.go:34
      refine o_idx (u := q.u) rfl ty98 rfl rfl (Int.natCast_nonneg n) (by simp [hq]) cl97 ?_
      first | refine o_loadN rfl rfl rfl sh97 rfl ?_ | refine o_loadN rfl rfl (at_set _ _ _) sh97 rfl ?_ | refine o_loadN rfl rfl (at_new _ _) sh97 rfl ?_ | refine o_loadN rfl rfl (at_old2 hst) sh97 rfl ?_ | refine o_loadN rfl rfl (at_old hst) sh97 rfl ?_ | refine o_loadN rfl rfl hst sh97 rfl ?_ | refine o_loadRN rfl rfl sh97 rfl ?_
      refine o_alloc rfl ze97 ?_
      first | refine o_storeN rfl rfl sh97 rfl rfl rfl rfl rfl ?_ | refine o_storeN rfl (at_new _ _) sh97 rfl rfl rfl rfl rfl ?_ | refine o_storeN rfl (at_set _ _ _) sh97 rfl rfl rfl rfl rfl ?_ | refine o_storeN rfl (at_old2 hst) sh97 rfl rfl rfl rfl rfl ?_ | refine o_storeN rfl (at_old hst) sh97 rfl rfl rfl rfl rfl ?_ | refine o_storeN rfl hst sh97 rfl rfl rfl rfl rfl ?_
      refine o_nil ?_
      refine k_seq ?_
      refine k_region ?_   -- region 4 book.go:35
      first | refine o_faddr rfl rfl fld97_0 ?_ | refine o_faddrR rfl rfl fld97_0 ?_
      first | refine o_faddr rfl rfl fld24_0 ?_ | refine o_faddrR rfl rfl fld24_0 ?_
      first | refine o_load1 rfl rfl rfl sh3 rfl ?_ | refine o_load1 rfl rfl (at_set _ _ _) sh3 rfl ?_ | refine o_load1 rfl rfl (at_new _ _) sh3 rfl ?_ | refine o_load1 rfl rfl (at_old2 hst) sh3 rfl ?_ | refine o_load1 rfl rfl (at_old hst) sh3 rfl ?_ | refine o_load1 rfl rfl hst sh3 rfl ?_ | refine o_loadR1 rfl rfl sh3 rfl ?_
      first | refine o_faddr rfl rfl fld97_0 ?_ | refine o_faddrR rfl rfl fld97_0 ?_
      first | refine o_faddr rfl rfl fld24_1 ?_ | refine o_faddrR rfl rfl fld24_1 ?_
      first | refine o_load1 rfl rfl rfl sh3 rfl ?_ | refine o_load1 rfl rfl (at_set _ _ _) sh3 rfl ?_ | refine o_load1 rfl rfl (at_new _ _) sh3 rfl ?_ | refine o_load1 rfl rfl (at_old2 hst) sh3 rfl ?_ | refine o_load1 rfl rfl (at_old hst) sh3 rfl ?_ | refine o_load1 rfl rfl hst sh3 rfl ?_ | refine o_loadR1 rfl rfl sh3 rfl ?_
      refine o_gtr rfl rfl rfl ?_
      refine o_move rfl ?_
      refine o_guard rfl rfl rfl rfl (fun h2 => ?_) (fun h2 => ?_)   -- slot 18
      · first | refine o_faddr rfl rfl fld97_0 ?_ | refine o_faddrR rfl rfl fld97_0 ?_
        refine o_guard rfl rfl rfl rfl (fun _ => ?_) (fun h => by rw [h2] at h; cases h)
        first | refine o_faddr rfl rfl fld24_0 ?_ | refine o_faddrR rfl rfl fld24_0 ?_
        refine o_guard rfl rfl rfl rfl (fun _ => ?_) (fun h => by rw [h2] at h; cases h)
        first | refine o_load1 rfl rfl rfl sh3 rfl ?_ | refine o_load1 rfl rfl (at_set _ _ _) sh3 rfl ?_ | refine o_load1 rfl rfl (at_new _ _) sh3 rfl ?_ | refine o_load1 rfl rfl (at_old2 hst) sh3 rfl ?_ | refine o_load1 rfl rfl (at_old hst) sh3 rfl ?_ | refine o_load1 rfl rfl hst sh3 rfl ?_ | refine o_loadR1 rfl rfl sh3 rfl ?_
        refine o_guard rfl rfl rfl rfl (fun _ => ?_) (fun h => by rw [h2] at h; cases h)
        first | refine o_faddr rfl rfl fld97_1 ?_ | refine o_faddrR rfl rfl fld97_1 ?_
        refine o_guard rfl rfl rfl rfl (fun _ => ?_) (fun h => by rw [h2] at h; cases h)
        first | refine o_load1 rfl rfl rfl sh3 rfl ?_ | refine o_load1 rfl rfl (at_set _ _ _) sh3 rfl ?_ | refine o_load1 rfl rfl (at_new _ _) sh3 rfl ?_ | refine o_load1 rfl rfl (at_old2 hst) sh3 rfl ?_ | refine o_load1 rfl rfl (at_old hst) sh3 rfl ?_ | refine o_load1 rfl rfl hst sh3 rfl ?_ | refine o_loadR1 rfl rfl sh3 rfl ?_
        refine o_guard rfl rfl rfl rfl (fun _ => ?_) (fun h => by rw [h2] at h; cases h)
        refine o_lss rfl rfl rfl ?_
        refine o_pickF rfl rfl h2 ?_
        refine o_move rfl ?_
        refine o_guard rfl rfl rfl rfl (fun h3 => ?_) (fun h3 => ?_)   -- slot 26
        · first | refine o_faddr rfl rfl fld97_0 ?_ | refine o_faddrR rfl rfl fld97_0 ?_
          refine o_guard rfl rfl rfl rfl (fun _ => ?_) (fun h => by rw [h3] at h; cases h)
          first | refine o_faddr rfl rfl fld24_1 ?_ | refine o_faddrR rfl rfl fld24_1 ?_
          refine o_guard rfl rfl rfl rfl (fun _ => ?_) (fun h => by rw [h3] at h; cases h)
          first | refine o_load1 rfl rfl rfl sh3 rfl ?_ | refine o_load1 rfl rfl (at_set _ _ _) sh3 rfl ?_ | refine o_load1 rfl rfl (at_new _ _) sh3 rfl ?_ | refine o_load1 rfl rfl (at_old2 hst) sh3 rfl ?_ | refine o_load1 rfl rfl (at_old hst) sh3 rfl ?_ | refine o_load1 rfl rfl hst sh3 rfl ?_ | refine o_loadR1 rfl rfl sh3 rfl ?_
          refine o_guard rfl rfl rfl rfl (fun _ => ?_) (fun h => by rw [h3] at h; cases h)
          first | refine o_faddr rfl rfl fld97_2 ?_ | refine o_faddrR rfl rfl fld97_2 ?_
          refine o_guard rfl rfl rfl rfl (fun _ => ?_) (fun h => by rw [h3] at h; cases h)
          first | refine o_load1 rfl rfl rfl sh3 rfl ?_ | refine o_load1 rfl rfl (at_set _ _ _) sh3 rfl ?_ | refine o_load1 rfl rfl (at_new _ _) sh3 rfl ?_ | refine o_load1 rfl rfl (at_old2 hst) sh3 rfl ?_ | refine o_load1 rfl rfl (at_old hst) sh3 rfl ?_ | refine o_load1 rfl rfl hst sh3 rfl ?_ | refine o_loadR1 rfl rfl sh3 rfl ?_
          refine o_guard rfl rfl rfl rfl (fun _ => ?_) (fun h => by rw [h3] at h; cases h)
          refine o_gtr rfl rfl rfl ?_
          refine o_pickF rfl rfl h3 ?_
          refine o_nil ?_
          refine k_cond rfl (fun h4 => ?_) (fun h4 => ?_)   -- slot 33
          · refine k_seq ?_
            refine k_region ?_   -- region 5 book.go:36
            refine o_assign rfl ?_
            refine o_nil ?_
            refine k_ret ?_
            refine ⟨.inr rfl, _, .cons _ _ _ _ (.tmp 2) .nil, ?_⟩
            have e : q.ok = false := by
              have a := of_decide_eq_true h4
              unfold Bnd.ok; simp; omega
            rw [all_not hq e]; exact .refl _
          · refine k_skip ?_
            refine k_region ?_   -- region 6 book.go:34
            refine o_add rfl rfl rfl (by unfold I64; omega) ?_
            refine o_move rfl ?_
            refine o_nil ?_
            have e : q.ok = true := by
              have a := of_decide_eq_false h2
              have b := of_decide_eq_false h3
              have c := of_decide_eq_false h4
              unfold Bnd.ok; simp; omega
            exact ⟨k - 1, by omega, n + 1, by omega, all_take hq ho e, .cons rfl (.cons rfl (.cons rfl (.nil rfl)))⟩
        · refine o_guard rfl rfl rfl rfl (fun h => by rw [h3] at h; cases h) (fun _ => ?_)
          refine o_guard rfl rfl rfl rfl (fun h => by rw [h3] at h; cases h) (fun _ => ?_)
          refine o_guard rfl rfl rfl rfl (fun h => by rw [h3] at h; cases h) (fun _ => ?_)
          refine o_guard rfl rfl rfl rfl (fun h => by rw [h3] at h; cases h) (fun _ => ?_)
          refine o_guard rfl rfl rfl rfl (fun h => by rw [h3] at h; cases h) (fun _ => ?_)
          refine o_pickT rfl rfl h3 ?_
          refine o_nil ?_
          refine k_cond rfl (fun _ => ?_) (fun h => by cases h)
          refine k_seq ?_
          refine k_region ?_   -- region 5 book.go:36
          refine o_assign rfl ?_
          refine o_nil ?_
          refine k_ret ?_
          refine ⟨.inr rfl, _, .cons _ _ _ _ (.tmp 2) .nil, ?_⟩
          have e : q.ok = false := by
            have a := of_decide_eq_true h3
            unfold Bnd.ok; simp; omega
          rw [all_not hq e]; exact .refl _
      · refine o_guard rfl rfl rfl rfl (fun h => by rw [h2] at h; cases h) (fun _ => ?_)
        refine o_guard rfl rfl rfl rfl (fun h => by rw [h2] at h; cases h) (fun _ => ?_)
        refine o_guard rfl rfl rfl rfl (fun h => by rw [h2] at h; cases h) (fun _ => ?_)
        refine o_guard rfl rfl rfl rfl (fun h => by rw [h2] at h; cases h) (fun _ => ?_)
        refine o_guard rfl rfl rfl rfl (fun h => by rw [h2] at h; cases h) (fun _ => ?_)
        refine o_pickT rfl rfl h2 ?_
        refine o_move rfl ?_
        refine o_guard rfl rfl rfl rfl (fun h => by cases h) (fun _ => ?_)
        refine o_guard rfl rfl rfl rfl (fun h => by cases h) (fun _ => ?_)
        refine o_guard rfl rfl rfl rfl (fun h => by cases h) (fun _ => ?_)
        refine o_guard rfl rfl rfl rfl (fun h => by cases h) (fun _ => ?_)
        refine o_guard rfl rfl rfl rfl (fun h => by cases h) (fun _ => ?_)
        refine o_guard rfl rfl rfl rfl (fun h => by cases h) (fun _ => ?_)
        refine o_pickT rfl rfl rfl ?_
        refine o_nil ?_
        refine k_cond rfl (fun _ => ?_) (fun h => by cases h)
        refine k_seq ?_
        refine k_region ?_   -- region 5 book.go:36
        refine o_assign rfl ?_
        refine o_nil ?_
        refine k_ret ?_
        refine ⟨.inr rfl, _, .cons _ _ _ _ (.tmp 2) .nil, ?_⟩
        have e : q.ok = false := by
          have a := of_decide_eq_true h2
          unfold Bnd.ok; simp; omega
        rw [all_not hq e]; exact .refl _
    · refine k_exit ?_
      refine k_seq ?_
      refine k_region ?_   -- region 7 book.go:39
      refine o_assign rfl ?_
      refine o_nil ?_
      refine k_ret ?_
      refine ⟨.inr rfl, _, .cons _ _ _ _ (.tmp 2) .nil, ?_⟩
      have h3' : n = l.length := by
        have := of_decide_eq_false h1
        simp at this; omega
      have h6 : l.all Bnd.ok = true := by rw [h3', List.take_length] at ho; exact ho
      rw [h6]; exact .refl _
  · exact ⟨0, rfl, rfl, .cons rfl (.cons rfl (.cons rfl (.nil rfl)))⟩

-- 60 saron/forge.boundsOfLists params [28] pure True
noncomputable def b60 : Code := (Try.f60.body).getD .skip
theorem body60 : bodyOf Try.prog 60 = some (65, b60, [.tmp 2]) := by kernel_rfl
theorem pure60 : pureFn Try.prog 60 = true := by kernel_rfl
set_option maxHeartbeats 4000000 in
theorem ret60 (hi : Off is) (b : Bk) (h1 : b.lots.length ≤ 4) (h2 : b.thins.length = 3) (h3 : b.looks.length ≤ 8) : RetP Try.prog is orc 60 [b.u] (.lst .ro 4 (bndsU (bndsL b))) := by
  refine ret_of body60 pure60 (hi 60 (by decide)) rfl rfl (dat_l1 (dat_bk b 5)) (.inl (dat_bnds _ .ro (fun h => by cases h) 6)) ?_
  have l1 : (b.lots.flatMap bnd1).length ≤ 8 := by have := flat_le bnd1 2 (fun _ => rfl) b.lots b.lots.length; rw [List.take_length] at this; omega
  have l2 : (b.thins.flatMap bnd2).length ≤ 3 := by have := flat_le bnd2 1 (fun _ => rfl) b.thins b.thins.length; rw [List.take_length] at this; omega
  have l0 : ([] : List Bnd).length = 0 := rfl
  refine k_seq ?_
  refine k_region ?_   -- region 0 book.go:60
  refine o_box rfl rfl ?_
  refine o_assign rfl ?_
  refine o_nil ?_
  refine k_seq ?_
  refine k_region ?_   -- region 1 book.go:61
  refine o_assignN 4 rfl (fun _ => rfl) ?_
  refine o_nil ?_
  refine k_seq ?_
  refine k_seq ?_
  refine k_region ?_   -- region 2 book.go:62
  first | refine o_faddr rfl rfl fld28_0 ?_ | refine o_faddrR rfl rfl fld28_0 ?_
  first | refine o_load1 rfl rfl rfl sh22 rfl ?_ | refine o_loadR1 rfl rfl sh22 rfl ?_
  refine o_len rfl ty22 rfl rfl ?_
  refine o_move rfl ?_
  refine o_nil ?_
  refine k_block ?_
  -- LOOP 1
  refine k_loop (fun k s => ∃ n : Nat, k + n = b.lots.length ∧ s.st[0]? = some (.box b.cs) ∧ Holds s [(1, .box 0 0), (3, .lst .own 4 (bndsU ([] ++ (b.lots.take n).flatMap bnd1))), (11, .lst .ro 3 (trisU b.lots)), (12, .int .i64 (trisU b.lots).length), (13, .int .i64 n)]) (fun k s hI => ?_) b.lots.length _ ?_
  · obtain ⟨n, hk, hst, hs⟩ := hI
    rw [hs.eq]
    refine k_seq ?_
    refine k_region ?_   -- region 3 book.go:62
    refine o_lss rfl rfl rfl ?_
    refine o_nil ?_
    refine k_seq ?_
    refine k_cond rfl (fun h1 => ?_) (fun h1 => ?_)   -- slot 14
    · have h3' : n < b.lots.length := by
        have := of_decide_eq_true h1
        simp at this; omega
      obtain ⟨q, hq⟩ : ∃ q, b.lots[n]? = some q := ⟨b.lots[n], List.getElem?_eq_getElem h3'⟩
      refine k_skip ?_
      refine k_seq ?_
      refine k_block ?_
      refine k_seq ?_
      refine k_region ?_   -- region 4 book.go:62
      refine o_idx (u := q.u) rfl ty22 rfl rfl (Int.natCast_nonneg n) (by simp [hq]) cl39 ?_
      first | refine o_loadN rfl rfl rfl sh39 rfl ?_ | refine o_loadN rfl rfl (at_set _ _ _) sh39 rfl ?_ | refine o_loadN rfl rfl (at_new _ _) sh39 rfl ?_ | refine o_loadN rfl rfl (at_old2 hst) sh39 rfl ?_ | refine o_loadN rfl rfl (at_old hst) sh39 rfl ?_ | refine o_loadN rfl rfl hst sh39 rfl ?_ | refine o_loadRN rfl rfl sh39 rfl ?_
      refine o_alloc rfl ze39 ?_
      first | refine o_storeN rfl rfl sh39 rfl rfl rfl rfl rfl ?_ | refine o_storeN rfl (at_new _ _) sh39 rfl rfl rfl rfl rfl ?_ | refine o_storeN rfl (at_set _ _ _) sh39 rfl rfl rfl rfl rfl ?_ | refine o_storeN rfl (at_old2 hst) sh39 rfl rfl rfl rfl rfl ?_ | refine o_storeN rfl (at_old hst) sh39 rfl rfl rfl rfl rfl ?_ | refine o_storeN rfl hst sh39 rfl rfl rfl rfl rfl ?_
      refine o_nil ?_
      refine k_draw [.plain, .plain, .read true, .read false, .plain, .plain, .read true, .plain, .plain, .plain, .plain] (by kernel_rfl) (by kernel_rfl) (by kernel_rfl) ?_   -- region 5
      refine d_plain (o_move rfl (o_nil rfl)) ?_
      first | refine d_plain (o_faddr rfl rfl fld39_0 (o_nil rfl)) ?_ | refine d_plain (o_faddrR rfl rfl fld39_0 (o_nil rfl)) ?_
      first | refine d_load rfl (o_load1 rfl rfl rfl sh3 rfl (o_nil rfl)) ?_ | refine d_load rfl (o_load1 rfl rfl (at_set _ _ _) sh3 rfl (o_nil rfl)) ?_ | refine d_load rfl (o_load1 rfl rfl (at_new _ _) sh3 rfl (o_nil rfl)) ?_ | refine d_load rfl (o_load1 rfl rfl (at_old2 hst) sh3 rfl (o_nil rfl)) ?_ | refine d_load rfl (o_load1 rfl rfl (at_old hst) sh3 rfl (o_nil rfl)) ?_ | refine d_load rfl (o_load1 rfl rfl hst sh3 rfl (o_nil rfl)) ?_ | refine d_load rfl (o_loadR1 rfl rfl sh3 rfl (o_nil rfl)) ?_
      refine d_callR rfl (ret54 hi _) (flat_span _ _) (.lrefl _) ?_
      refine d_plain (o_build rfl ze97 pl97 rfl rfl (o_nil rfl)) ?_
      first | refine d_plain (o_faddr rfl rfl fld39_1 (o_nil rfl)) ?_ | refine d_plain (o_faddrR rfl rfl fld39_1 (o_nil rfl)) ?_
      first | refine d_load rfl (o_loadN rfl rfl rfl sh24 rfl (o_nil rfl)) ?_ | refine d_load rfl (o_loadN rfl rfl (at_set _ _ _) sh24 rfl (o_nil rfl)) ?_ | refine d_load rfl (o_loadN rfl rfl (at_new _ _) sh24 rfl (o_nil rfl)) ?_ | refine d_load rfl (o_loadN rfl rfl (at_old2 hst) sh24 rfl (o_nil rfl)) ?_ | refine d_load rfl (o_loadN rfl rfl (at_old hst) sh24 rfl (o_nil rfl)) ?_ | refine d_load rfl (o_loadN rfl rfl hst sh24 rfl (o_nil rfl)) ?_ | refine d_load rfl (o_loadRN rfl rfl sh24 rfl (o_nil rfl)) ?_
      refine d_plain (o_build rfl ze97 pl97 rfl rfl (o_nil rfl)) ?_
      refine d_plain (o_lit rfl ty98 ze97 cl97 rfl rfl rfl rfl rfl rfl rfl rfl (o_nil rfl)) ?_
      refine d_plain (o_appendS 3 rfl ap98_98 rfl rfl rfl (.inl rfl) (.inl rfl) rfl (by show ((bndsU ([] ++ (b.lots.take n).flatMap bnd1)).length + 2) * (32 + 4) ≤ 16777216; simp only [List.length_map, List.length_append]; have := flat_le bnd1 2 (fun _ => rfl) b.lots n; omega) (o_nil rfl)) ?_
      refine d_plain (o_assign rfl (o_nil rfl)) ?_
      refine d_nil ?_
      refine k_region ?_   -- region 6 book.go:62
      refine o_add rfl rfl rfl (by unfold I64; omega) ?_
      refine o_move rfl ?_
      refine o_nil ?_
      exact ⟨k - 1, by omega, n + 1, by omega, (by first | exact hst | exact at_old2 hst), .cons rfl (.cons (congrArg (U.lst .own 4) (snoc_bnds bnd1 ([]) hq)) (.cons rfl (.cons rfl (.cons rfl (.nil rfl)))))⟩
    · refine k_exit ?_
      refine k_seq ?_
      refine k_seq ?_
      refine k_region ?_   -- region 7 book.go:65
      first | refine o_faddr rfl rfl fld28_5 ?_ | refine o_faddrR rfl rfl fld28_5 ?_
      first | refine o_load1 rfl rfl rfl sh25 rfl ?_ | refine o_load1 rfl rfl (at_set _ _ _) sh25 rfl ?_ | refine o_load1 rfl rfl (at_new _ _) sh25 rfl ?_ | refine o_load1 rfl rfl (at_old2 hst) sh25 rfl ?_ | refine o_load1 rfl rfl (at_old hst) sh25 rfl ?_ | refine o_load1 rfl rfl hst sh25 rfl ?_ | refine o_loadR1 rfl rfl sh25 rfl ?_
      refine o_len rfl ty25 rfl rfl ?_
      refine o_move rfl ?_
      refine o_nil ?_
      refine k_block ?_
      -- LOOP 2
      refine k_loop (fun k s => ∃ n : Nat, k + n = b.thins.length ∧ s.st[0]? = some (.box b.cs) ∧ Holds s [(1, .box 0 0), (3, .lst .own 4 (bndsU (b.lots.flatMap bnd1 ++ (b.thins.take n).flatMap bnd2))), (29, .lst .ro 2 (twosU b.thins)), (30, .int .i64 (twosU b.thins).length), (31, .int .i64 n)]) (fun k s hI => ?_) b.thins.length _ ?_
      · obtain ⟨n, hk, hst, hs⟩ := hI
        rw [hs.eq]
        refine k_seq ?_
        refine k_region ?_   -- region 8 book.go:65
        refine o_lss rfl rfl rfl ?_
        refine o_nil ?_
        refine k_seq ?_
        refine k_cond rfl (fun h2 => ?_) (fun h2 => ?_)   -- slot 32
        · have h3' : n < b.thins.length := by
            have := of_decide_eq_true h2
            simp at this; omega
          obtain ⟨q, hq⟩ : ∃ q, b.thins[n]? = some q := ⟨b.thins[n], List.getElem?_eq_getElem h3'⟩
          refine k_skip ?_
          refine k_seq ?_
          refine k_block ?_
          refine k_seq ?_
          refine k_region ?_   -- region 9 book.go:65
          refine o_idx (u := q.u) rfl ty25 rfl rfl (Int.natCast_nonneg n) (by simp [hq]) cl24 ?_
          first | refine o_loadN rfl rfl rfl sh24 rfl ?_ | refine o_loadN rfl rfl (at_set _ _ _) sh24 rfl ?_ | refine o_loadN rfl rfl (at_new _ _) sh24 rfl ?_ | refine o_loadN rfl rfl (at_old2 hst) sh24 rfl ?_ | refine o_loadN rfl rfl (at_old hst) sh24 rfl ?_ | refine o_loadN rfl rfl hst sh24 rfl ?_ | refine o_loadRN rfl rfl sh24 rfl ?_
          refine o_alloc rfl ze24 ?_
          first | refine o_storeN rfl rfl sh24 rfl rfl rfl rfl rfl ?_ | refine o_storeN rfl (at_new _ _) sh24 rfl rfl rfl rfl rfl ?_ | refine o_storeN rfl (at_set _ _ _) sh24 rfl rfl rfl rfl rfl ?_ | refine o_storeN rfl (at_old2 hst) sh24 rfl rfl rfl rfl rfl ?_ | refine o_storeN rfl (at_old hst) sh24 rfl rfl rfl rfl rfl ?_ | refine o_storeN rfl hst sh24 rfl rfl rfl rfl rfl ?_
          refine o_nil ?_
          refine k_region ?_   -- region 10 book.go:66
          refine o_move rfl ?_
          first | refine o_loadN rfl rfl rfl sh24 rfl ?_ | refine o_loadN rfl rfl (at_set _ _ _) sh24 rfl ?_ | refine o_loadN rfl rfl (at_new _ _) sh24 rfl ?_ | refine o_loadN rfl rfl (at_old2 hst) sh24 rfl ?_ | refine o_loadN rfl rfl (at_old hst) sh24 rfl ?_ | refine o_loadN rfl rfl hst sh24 rfl ?_ | refine o_loadRN rfl rfl sh24 rfl ?_
          refine o_build rfl ze97 pl97 rfl rfl ?_
          refine o_lit rfl ty98 ze97 cl97 rfl rfl rfl rfl rfl rfl rfl rfl ?_
          refine o_appendS 3 rfl ap98_98 rfl rfl rfl (.inl rfl) (.inl rfl) rfl (by show ((bndsU (b.lots.flatMap bnd1 ++ (b.thins.take n).flatMap bnd2)).length + 1) * (32 + 4) ≤ 16777216; simp only [List.length_map, List.length_append]; have := flat_le bnd2 1 (fun _ => rfl) b.thins n; omega) ?_
          refine o_assign rfl ?_
          refine o_nil ?_
          refine k_region ?_   -- region 11 book.go:65
          refine o_add rfl rfl rfl (by unfold I64; omega) ?_
          refine o_move rfl ?_
          refine o_nil ?_
          exact ⟨k - 1, by omega, n + 1, by omega, (by first | exact hst | exact at_old2 hst), .cons rfl (.cons (congrArg (U.lst .own 4) (snoc_bnds bnd2 (b.lots.flatMap bnd1) hq)) (.cons rfl (.cons rfl (.cons rfl (.nil rfl)))))⟩
        · refine k_exit ?_
          refine k_seq ?_
          refine k_seq ?_
          refine k_region ?_   -- region 12 book.go:68
          first | refine o_faddr rfl rfl fld28_10 ?_ | refine o_faddrR rfl rfl fld28_10 ?_
          first | refine o_load1 rfl rfl rfl sh26 rfl ?_ | refine o_load1 rfl rfl (at_set _ _ _) sh26 rfl ?_ | refine o_load1 rfl rfl (at_new _ _) sh26 rfl ?_ | refine o_load1 rfl rfl (at_old2 hst) sh26 rfl ?_ | refine o_load1 rfl rfl (at_old hst) sh26 rfl ?_ | refine o_load1 rfl rfl hst sh26 rfl ?_ | refine o_loadR1 rfl rfl sh26 rfl ?_
          refine o_len rfl ty26 rfl rfl ?_
          refine o_move rfl ?_
          refine o_nil ?_
          refine k_block ?_
          -- LOOP 3
          refine k_loop (fun k s => ∃ n : Nat, k + n = b.looks.length ∧ s.st[0]? = some (.box b.cs) ∧ Holds s [(1, .box 0 0), (3, .lst .own 4 (bndsU ((b.lots.flatMap bnd1 ++ b.thins.flatMap bnd2) ++ (b.looks.take n).flatMap bnd3))), (42, .lst .ro 3 (trisU b.looks)), (43, .int .i64 (trisU b.looks).length), (44, .int .i64 n)]) (fun k s hI => ?_) b.looks.length _ ?_
          · obtain ⟨n, hk, hst, hs⟩ := hI
            rw [hs.eq]
            refine k_seq ?_
            refine k_region ?_   -- region 13 book.go:68
            refine o_lss rfl rfl rfl ?_
            refine o_nil ?_
            refine k_seq ?_
            refine k_cond rfl (fun h3 => ?_) (fun h3 => ?_)   -- slot 45
            · have h3' : n < b.looks.length := by
                have := of_decide_eq_true h3
                simp at this; omega
              obtain ⟨q, hq⟩ : ∃ q, b.looks[n]? = some q := ⟨b.looks[n], List.getElem?_eq_getElem h3'⟩
              refine k_skip ?_
              refine k_seq ?_
              refine k_block ?_
              refine k_seq ?_
              refine k_region ?_   -- region 14 book.go:68
              refine o_idx (u := q.u) rfl ty26 rfl rfl (Int.natCast_nonneg n) (by simp [hq]) cl49 ?_
              first | refine o_loadN rfl rfl rfl sh49 rfl ?_ | refine o_loadN rfl rfl (at_set _ _ _) sh49 rfl ?_ | refine o_loadN rfl rfl (at_new _ _) sh49 rfl ?_ | refine o_loadN rfl rfl (at_old2 hst) sh49 rfl ?_ | refine o_loadN rfl rfl (at_old hst) sh49 rfl ?_ | refine o_loadN rfl rfl hst sh49 rfl ?_ | refine o_loadRN rfl rfl sh49 rfl ?_
              refine o_alloc rfl ze49 ?_
              first | refine o_storeN rfl rfl sh49 rfl rfl rfl rfl rfl ?_ | refine o_storeN rfl (at_new _ _) sh49 rfl rfl rfl rfl rfl ?_ | refine o_storeN rfl (at_set _ _ _) sh49 rfl rfl rfl rfl rfl ?_ | refine o_storeN rfl (at_old2 hst) sh49 rfl rfl rfl rfl rfl ?_ | refine o_storeN rfl (at_old hst) sh49 rfl rfl rfl rfl rfl ?_ | refine o_storeN rfl hst sh49 rfl rfl rfl rfl rfl ?_
              refine o_nil ?_
              refine k_draw [.plain, .plain, .read true, .read false, .plain, .plain, .read true, .read false, .plain, .plain, .read true, .plain, .plain, .plain, .plain, .plain] (by kernel_rfl) (by kernel_rfl) (by kernel_rfl) ?_   -- region 15
              refine d_plain (o_move rfl (o_nil rfl)) ?_
              first | refine d_plain (o_faddr rfl rfl fld49_0 (o_nil rfl)) ?_ | refine d_plain (o_faddrR rfl rfl fld49_0 (o_nil rfl)) ?_
              first | refine d_load rfl (o_load1 rfl rfl rfl sh3 rfl (o_nil rfl)) ?_ | refine d_load rfl (o_load1 rfl rfl (at_set _ _ _) sh3 rfl (o_nil rfl)) ?_ | refine d_load rfl (o_load1 rfl rfl (at_new _ _) sh3 rfl (o_nil rfl)) ?_ | refine d_load rfl (o_load1 rfl rfl (at_old2 hst) sh3 rfl (o_nil rfl)) ?_ | refine d_load rfl (o_load1 rfl rfl (at_old hst) sh3 rfl (o_nil rfl)) ?_ | refine d_load rfl (o_load1 rfl rfl hst sh3 rfl (o_nil rfl)) ?_ | refine d_load rfl (o_loadR1 rfl rfl sh3 rfl (o_nil rfl)) ?_
              refine d_callR rfl (ret54 hi _) (flat_span _ _) (.lrefl _) ?_
              refine d_plain (o_build rfl ze97 pl97 rfl rfl (o_nil rfl)) ?_
              first | refine d_plain (o_faddr rfl rfl fld49_1 (o_nil rfl)) ?_ | refine d_plain (o_faddrR rfl rfl fld49_1 (o_nil rfl)) ?_
              first | refine d_load rfl (o_load1 rfl rfl rfl sh3 rfl (o_nil rfl)) ?_ | refine d_load rfl (o_load1 rfl rfl (at_set _ _ _) sh3 rfl (o_nil rfl)) ?_ | refine d_load rfl (o_load1 rfl rfl (at_new _ _) sh3 rfl (o_nil rfl)) ?_ | refine d_load rfl (o_load1 rfl rfl (at_old2 hst) sh3 rfl (o_nil rfl)) ?_ | refine d_load rfl (o_load1 rfl rfl (at_old hst) sh3 rfl (o_nil rfl)) ?_ | refine d_load rfl (o_load1 rfl rfl hst sh3 rfl (o_nil rfl)) ?_ | refine d_load rfl (o_loadR1 rfl rfl sh3 rfl (o_nil rfl)) ?_
              refine d_callR rfl (ret54 hi _) (flat_span _ _) (.lrefl _) ?_
              refine d_plain (o_build rfl ze97 pl97 rfl rfl (o_nil rfl)) ?_
              first | refine d_plain (o_faddr rfl rfl fld49_2 (o_nil rfl)) ?_ | refine d_plain (o_faddrR rfl rfl fld49_2 (o_nil rfl)) ?_
              first | refine d_load rfl (o_load1 rfl rfl rfl sh3 rfl (o_nil rfl)) ?_ | refine d_load rfl (o_load1 rfl rfl (at_set _ _ _) sh3 rfl (o_nil rfl)) ?_ | refine d_load rfl (o_load1 rfl rfl (at_new _ _) sh3 rfl (o_nil rfl)) ?_ | refine d_load rfl (o_load1 rfl rfl (at_old2 hst) sh3 rfl (o_nil rfl)) ?_ | refine d_load rfl (o_load1 rfl rfl (at_old hst) sh3 rfl (o_nil rfl)) ?_ | refine d_load rfl (o_load1 rfl rfl hst sh3 rfl (o_nil rfl)) ?_ | refine d_load rfl (o_loadR1 rfl rfl sh3 rfl (o_nil rfl)) ?_
              refine d_plain (o_call rfl (ret54 hi _) (.lrefl _) (o_nil rfl)) ?_
              refine d_plain (o_build rfl ze97 pl97 rfl rfl (o_nil rfl)) ?_
              refine d_plain (o_lit rfl ty98 ze97 cl97 rfl rfl rfl rfl rfl rfl rfl rfl (o_nil rfl)) ?_
              refine d_plain (o_appendS 3 rfl ap98_98 rfl rfl rfl (.inl rfl) (.inl rfl) rfl (by show ((bndsU ((b.lots.flatMap bnd1 ++ b.thins.flatMap bnd2) ++ (b.looks.take n).flatMap bnd3)).length + 3) * (32 + 4) ≤ 16777216; simp only [List.length_map, List.length_append]; have := flat_le bnd3 3 (fun _ => rfl) b.looks n; omega) (o_nil rfl)) ?_
              refine d_plain (o_assign rfl (o_nil rfl)) ?_
              refine d_nil ?_
              refine k_region ?_   -- region 16 book.go:68
              refine o_add rfl rfl rfl (by unfold I64; omega) ?_
              refine o_move rfl ?_
              refine o_nil ?_
              exact ⟨k - 1, by omega, n + 1, by omega, (by first | exact hst | exact at_old2 hst), .cons rfl (.cons (congrArg (U.lst .own 4) (snoc_bnds bnd3 ((b.lots.flatMap bnd1 ++ b.thins.flatMap bnd2)) hq)) (.cons rfl (.cons rfl (.cons rfl (.nil rfl)))))⟩
            · refine k_exit ?_
              refine k_seq ?_
              refine k_region ?_   -- region 17 book.go:74
              refine o_move rfl ?_
              refine o_assign rfl ?_
              refine o_nil ?_
              refine k_ret ?_
              refine ⟨.inr rfl, _, .cons _ _ _ _ (.tmp 2) .nil, ?_⟩
              have := of_decide_eq_false h3
              simp at this
              have e : n = b.looks.length := by omega
              subst e
              rw [List.take_length]
              exact .ro _ _ _
          · exact ⟨0, rfl, hst, .cons rfl (.cons (by have := of_decide_eq_false h2; simp at this; have e : n = b.thins.length := (by omega); subst e; show U.lst .own 4 _ = _; simp) (.cons rfl (.cons rfl (.cons rfl (.nil rfl)))))⟩
      · exact ⟨0, rfl, hst, .cons rfl (.cons (by have := of_decide_eq_false h1; simp at this; have e : n = b.lots.length := (by omega); subst e; show U.lst .own 4 _ = _; simp) (.cons rfl (.cons rfl (.cons rfl (.nil rfl)))))⟩
  · exact ⟨0, rfl, rfl, .cons rfl (.cons rfl (.cons rfl (.cons rfl (.cons rfl (.nil rfl)))))⟩
end Go.Proofs.Ytniplfmjbjjocaa.forgeHeats
