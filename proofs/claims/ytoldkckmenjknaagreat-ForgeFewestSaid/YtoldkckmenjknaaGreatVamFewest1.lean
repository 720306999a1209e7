/- forge's functions, the specification's and the law's, by the logic of trees: what each gives back for all that it may be given. -/
import Derived.Test.YtoldkckmenjknaaGreatVamQ
import Derived.Test.YtoldkckmenjknaaGreatProg
import Derived.KernelRfl
namespace Go.Proofs.YtoldkckmenjknaaGreat.forgeFewest
open Vam
set_option linter.unusedVariables false
set_option linter.unusedSimpArgs false
set_option linter.constructorNameAsVariable false
variable {is : FuncId → Bool} {orc : Known}
theorem fld24_0 : fieldOf Tryz.prog 24 0 = some (0, 3) := by kernel_rfl
theorem fld24_1 : fieldOf Tryz.prog 24 1 = some (1, 3) := by kernel_rfl
theorem pl24 : plcOf Tryz.prog 24 = some [(0, 1), (1, 1)] := by kernel_rfl
theorem sh24 : shOf Tryz.prog 24 = .many 2 := by kernel_rfl
theorem sh3 : shOf Tryz.prog 3 = .one := by kernel_rfl
theorem ze24 : zeroL Tryz.prog 24 = some ((.cons (.int .i64 0) (.cons (.int .i64 0) .nil)) : V) := by kernel_rfl
theorem dat_l1 {k : Nat} {a : U} (h : Dat k a) : ∀ v ∈ [a], Dat k v := fun v hv => by
  simp only [List.mem_cons, List.not_mem_nil, or_false] at hv
  subst hv; exact h
theorem dat_l2 {k : Nat} {a b : U} (h : Dat k a) (h2 : Dat k b) : ∀ v ∈ [a, b], Dat k v := fun v hv => by
  simp only [List.mem_cons, List.not_mem_nil, or_false] at hv
  rcases hv with rfl | rfl <;> assumption
theorem dat_l3 {k : Nat} {a b c : U} (h : Dat k a) (h2 : Dat k b) (h3 : Dat k c) : ∀ v ∈ [a, b, c], Dat k v := fun v hv => by
  simp only [List.mem_cons, List.not_mem_nil, or_false] at hv
  rcases hv with rfl | rfl | rfl <;> assumption
abbrev spanU (a b : Int) : U := .agg [.int .i64 a, .int .i64 b]
theorem dat_span (a b : Int) (k : Nat) : Dat (k + 2) (spanU a b) := .agg _ _ (dat_l2 (.int _ _ _) (.int _ _ _))
theorem flat_span (a b : Int) : FlatU (spanU a b) := .agg _ fun c hc => by
  simp only [List.mem_cons, List.not_mem_nil, or_false] at hc
  rcases hc with rfl | rfl <;> exact .int _ _
structure Tri where
  a : Int
  b : Int
  c : Int
abbrev Tri.u (q : Tri) : U := .agg [.int .i64 q.a, .int .i64 q.b, .int .i64 q.c]
abbrev trisU (l : List Tri) : List U := l.map Tri.u
structure Two where
  a : Int
  b : Int
abbrev Two.u (q : Two) : U := spanU q.a q.b
abbrev twosU (l : List Two) : List U := l.map Two.u
structure Bnd where
  a : Int
  b : Int
  lo : Int
  hi : Int
abbrev Bnd.u (q : Bnd) : U := .agg [.int .i64 q.a, .int .i64 q.b, .int .i64 q.lo, .int .i64 q.hi]
abbrev bndsU (l : List Bnd) : List U := l.map Bnd.u
def Bnd.ok (q : Bnd) : Bool := decide (q.a ≤ q.b) && decide (q.lo ≤ q.a) && decide (q.b ≤ q.hi)
theorem dat_tris (l : List Tri) (kd : Kd) (hk : kd ≠ .own) (k : Nat) : Dat (k + 2) (.lst kd 3 (trisU l)) := by
  refine .lst _ _ _ _ hk fun c hc => ?_
  obtain ⟨e, h1, h2⟩ := List.mem_flatMap.1 hc
  obtain ⟨q, _, rfl⟩ := List.mem_map.1 h1
  exact dat_l3 (.int _ _ _) (.int _ _ _) (.int _ _ _) c h2
theorem dat_twos (l : List Two) (kd : Kd) (hk : kd ≠ .own) (k : Nat) : Dat (k + 2) (.lst kd 2 (twosU l)) := by
  refine .lst _ _ _ _ hk fun c hc => ?_
  obtain ⟨e, h1, h2⟩ := List.mem_flatMap.1 hc
  obtain ⟨q, _, rfl⟩ := List.mem_map.1 h1
  exact dat_l2 (.int _ _ _) (.int _ _ _) c h2
theorem dat_bnds (l : List Bnd) (kd : Kd) (hk : kd ≠ .own) (k : Nat) : Dat (k + 2) (.lst kd 4 (bndsU l)) := by
  refine .lst _ _ _ _ hk fun c hc => ?_
  obtain ⟨e, h1, h2⟩ := List.mem_flatMap.1 hc
  obtain ⟨q, _, rfl⟩ := List.mem_map.1 h1
  have h2 : c ∈ [U.int .i64 q.a, .int .i64 q.b, .int .i64 q.lo, .int .i64 q.hi] := h2
  simp only [List.mem_cons, List.not_mem_nil, or_false] at h2
  rcases h2 with rfl | rfl | rfl | rfl <;> exact .int _ _ _
theorem all_take {α : Type} {p : α → Bool} {l : List α} {n : Nat} {x : α} (h : l[n]? = some x) (h1 : (l.take n).all p = true) (h2 : p x = true) : (l.take (n + 1)).all p = true := by
  rw [List.take_add_one, List.all_append, h1, h]
  simpa using h2
theorem all_not {α : Type} {p : α → Bool} {l : List α} {n : Nat} {x : α} (h : l[n]? = some x) (h2 : p x = false) : l.all p = false := by
  rw [List.all_eq_false]
  exact ⟨x, List.mem_of_getElem? h, by simp [h2]⟩
structure Bk where
  lots : List Tri
  tlo : Int
  thi : Int
  thick : Int
  crack : Int
  glo : Int
  ghi : Int
  thins : List Two
  hot : Int
  least : Int
  clo : Int
  chi : Int
  coal : Int
  looks : List Tri
abbrev Bk.u (b : Bk) : U := .agg [.lst .ro 3 (trisU b.lots), .int .i64 b.tlo, .int .i64 b.thi, .int .i64 b.thick, .int .i64 b.crack, .int .i64 b.glo, .int .i64 b.ghi, .lst .ro 2 (twosU b.thins), .int .i64 b.hot, .int .i64 b.least, .int .i64 b.clo, .int .i64 b.chi, .int .i64 b.coal, .lst .ro 3 (trisU b.looks)]
theorem dat_bk (b : Bk) (n : Nat) : Dat (n + 3) b.u := .agg _ _ fun c hc => by
  simp only [List.mem_cons, List.not_mem_nil, or_false] at hc
  rcases hc with rfl | rfl | rfl | rfl | rfl | rfl | rfl | rfl | rfl | rfl | rfl | rfl | rfl | rfl <;> first | exact .int _ _ _ | exact dat_tris _ _ (fun h => by cases h) _ | exact dat_twos _ _ (fun h => by cases h) _
abbrev Off (is : FuncId → Bool) : Prop := ∀ f, f ≠ 16 → is f = false
noncomputable def b58 : Code := (Tryz.f58.body).getD .skip
theorem body58 : bodyOf Tryz.prog 58 = some (6, b58, [.cell 2 24]) := by kernel_rfl
theorem pure58 : pureFn Tryz.prog 58 = true := by kernel_rfl
set_option maxHeartbeats 4000000 in
theorem ret58 (hi : Off is) (n : Int) : RetP Tryz.prog is orc 58 [.int .i64 n] (spanU n n) := by
  refine ret_of body58 pure58 (hi 58 (by decide)) rfl rfl (dat_l1 (.int _ _ _)) (.inl (dat_span _ _ _)) ?_
  refine k_seq (k_region ?_)
  refine o_alloc rfl ze24 ?_
  refine o_nil ?_
  refine k_seq (k_region ?_)
  refine o_move rfl ?_
  refine o_move rfl ?_
  refine o_build rfl ze24 pl24 rfl rfl ?_
  refine o_storeN rfl rfl sh24 rfl rfl rfl rfl rfl ?_
  refine o_nil ?_
  refine k_ret ?_
  refine ⟨.inr rfl, _, .cons _ _ _ _ (.cellN 2 24 _ _ _ _ rfl rfl sh24 rfl) .nil, ?_⟩
  exact .refl _
noncomputable def b25 : Code := (Tryz.f25.body).getD .skip
theorem body25 : bodyOf Tryz.prog 25 = some (15, b25, [.tmp 6]) := by kernel_rfl
theorem pure25 : pureFn Tryz.prog 25 = true := by kernel_rfl
set_option maxHeartbeats 4000000 in
theorem ret25 (hi : Off is) (n lo up : Int) : RetP Tryz.prog is orc 25 [.int .i64 n, .int .i64 lo, .int .i64 up] (.bool (decide (lo ≤ n) && decide (n ≤ up))) := by
  refine ret_of body25 pure25 (hi 25 (by decide)) rfl rfl (dat_l3 (.int _ _ _) (.int _ _ _) (.int _ _ _)) (.inl (.bool _ _)) ?_
  refine k_seq (k_region ?_)
  refine o_assign rfl ?_
  refine o_nil ?_
  refine k_seq (k_region ?_)
  refine o_move rfl ?_
  refine o_move rfl ?_
  refine o_leq rfl rfl rfl ?_
  refine o_move rfl ?_
  refine o_guard rfl rfl rfl rfl (fun h1 => ?_) (fun h1 => ?_)
  · refine o_move rfl ?_
    refine o_gD rfl rfl rfl rfl h1 ?_
    refine o_move rfl ?_
    refine o_gD rfl rfl rfl rfl h1 ?_
    refine o_leq rfl rfl rfl ?_
    refine o_pickT rfl rfl h1 ?_
    refine o_assign rfl ?_
    refine o_nil ?_
    refine k_ret ?_
    refine ⟨.inr rfl, _, .cons _ _ _ _ (.tmp 6) .nil, ?_⟩
    rw [h1]; exact .refl _
  · refine o_gS rfl rfl rfl rfl h1 ?_
    refine o_gS rfl rfl rfl rfl h1 ?_
    refine o_pickF rfl rfl h1 ?_
    refine o_assign rfl ?_
    refine o_nil ?_
    refine k_ret ?_
    refine ⟨.inr rfl, _, .cons _ _ _ _ (.tmp 6) .nil, ?_⟩
    rw [h1]; exact .refl _
noncomputable def b33 : Code := (Tryz.f33.body).getD .skip
theorem body33 : bodyOf Tryz.prog 33 = some (24, b33, [.tmp 6]) := by kernel_rfl
theorem pure33 : pureFn Tryz.prog 33 = true := by kernel_rfl
set_option maxHeartbeats 4000000 in
theorem ret33 (hi : Off is) (a b lo up : Int) : RetP Tryz.prog is orc 33 [spanU a b, .int .i64 lo, .int .i64 up] (.bool (decide (lo ≤ a) && (decide (a ≤ b) && decide (b ≤ up)))) := by
  refine ret_of body33 pure33 (hi 33 (by decide)) rfl rfl (dat_l3 (dat_span _ _ _) (.int _ _ _) (.int _ _ _)) (.inl (.bool _ _)) ?_
  refine k_seq (k_region ?_)
  refine o_box rfl rfl ?_
  refine o_assign rfl ?_
  refine o_nil ?_
  refine k_seq (k_region ?_)
  refine o_move rfl ?_
  refine o_faddr rfl rfl fld24_0 ?_
  refine o_load1 rfl rfl rfl sh3 rfl ?_
  refine o_leq rfl rfl rfl ?_
  refine o_move rfl ?_
  refine o_guard rfl rfl rfl rfl (fun h1 => ?_) (fun h1 => ?_)
  · refine o_faddr rfl rfl fld24_0 ?_
    refine o_gD rfl rfl rfl rfl h1 ?_
    refine o_load1 rfl rfl rfl sh3 rfl ?_
    refine o_gD rfl rfl rfl rfl h1 ?_
    refine o_faddr rfl rfl fld24_1 ?_
    refine o_gD rfl rfl rfl rfl h1 ?_
    refine o_load1 rfl rfl rfl sh3 rfl ?_
    refine o_gD rfl rfl rfl rfl h1 ?_
    refine o_leq rfl rfl rfl ?_
    refine o_pickT rfl rfl h1 ?_
    refine o_move rfl ?_
    refine o_guard rfl rfl rfl rfl (fun h2 => ?_) (fun h2 => ?_)
    · refine o_faddr rfl rfl fld24_1 ?_
      refine o_gD rfl rfl rfl rfl h2 ?_
      refine o_load1 rfl rfl rfl sh3 rfl ?_
      refine o_gD rfl rfl rfl rfl h2 ?_
      refine o_move rfl ?_
      refine o_gD rfl rfl rfl rfl h2 ?_
      refine o_leq rfl rfl rfl ?_
      refine o_pickT rfl rfl h2 ?_
      refine o_assign rfl ?_
      refine o_nil ?_
      refine k_ret ?_
      refine ⟨.inr rfl, _, .cons _ _ _ _ (.tmp 6) .nil, ?_⟩
      rw [h1, h2]; exact .refl _
    · refine o_gS rfl rfl rfl rfl h2 ?_
      refine o_gS rfl rfl rfl rfl h2 ?_
      refine o_gS rfl rfl rfl rfl h2 ?_
      refine o_pickF rfl rfl h2 ?_
      refine o_assign rfl ?_
      refine o_nil ?_
      refine k_ret ?_
      refine ⟨.inr rfl, _, .cons _ _ _ _ (.tmp 6) .nil, ?_⟩
      rw [h1, h2]; exact .refl _
  · refine o_gS rfl rfl rfl rfl h1 ?_
    refine o_gS rfl rfl rfl rfl h1 ?_
    refine o_gS rfl rfl rfl rfl h1 ?_
    refine o_gS rfl rfl rfl rfl h1 ?_
    refine o_pickF rfl rfl h1 ?_
    refine o_move rfl ?_
    refine o_gS rfl rfl rfl rfl rfl ?_
    refine o_gS rfl rfl rfl rfl rfl ?_
    refine o_gS rfl rfl rfl rfl rfl ?_
    refine o_gS rfl rfl rfl rfl rfl ?_
    refine o_pickF rfl rfl rfl ?_
    refine o_assign rfl ?_
    refine o_nil ?_
    refine k_ret ?_
    refine ⟨.inr rfl, _, .cons _ _ _ _ (.tmp 6) .nil, ?_⟩
    rw [h1]; exact .refl _
noncomputable def b34 : Code := (Tryz.f34.body).getD .skip
theorem body34 : bodyOf Tryz.prog 34 = some (15, b34, [.tmp 4]) := by kernel_rfl
theorem pure34 : pureFn Tryz.prog 34 = true := by kernel_rfl
set_option maxHeartbeats 4000000 in
theorem ret34 (hi : Off is) (a b n : Int) : RetP Tryz.prog is orc 34 [spanU a b, .int .i64 n] (.bool (decide (a ≤ n) && decide (n ≤ b))) := by
  refine ret_of body34 pure34 (hi 34 (by decide)) rfl rfl (dat_l2 (dat_span _ _ _) (.int _ _ _)) (.inl (.bool _ _)) ?_
  refine k_seq (k_region ?_)
  refine o_box rfl rfl ?_
  refine o_assign rfl ?_
  refine o_nil ?_
  refine k_seq (k_region ?_)
  refine o_faddr rfl rfl fld24_0 ?_
  refine o_load1 rfl rfl rfl sh3 rfl ?_
  refine o_move rfl ?_
  refine o_leq rfl rfl rfl ?_
  refine o_move rfl ?_
  refine o_guard rfl rfl rfl rfl (fun h1 => ?_) (fun h1 => ?_)
  · refine o_move rfl ?_
    refine o_gD rfl rfl rfl rfl h1 ?_
    refine o_faddr rfl rfl fld24_1 ?_
    refine o_gD rfl rfl rfl rfl h1 ?_
    refine o_load1 rfl rfl rfl sh3 rfl ?_
    refine o_gD rfl rfl rfl rfl h1 ?_
    refine o_leq rfl rfl rfl ?_
    refine o_pickT rfl rfl h1 ?_
    refine o_assign rfl ?_
    refine o_nil ?_
    refine k_ret ?_
    refine ⟨.inr rfl, _, .cons _ _ _ _ (.tmp 4) .nil, ?_⟩
    rw [h1]; exact .refl _
  · refine o_gS rfl rfl rfl rfl h1 ?_
    refine o_gS rfl rfl rfl rfl h1 ?_
    refine o_gS rfl rfl rfl rfl h1 ?_
    refine o_pickF rfl rfl h1 ?_
    refine o_assign rfl ?_
    refine o_nil ?_
    refine k_ret ?_
    refine ⟨.inr rfl, _, .cons _ _ _ _ (.tmp 4) .nil, ?_⟩
    rw [h1]; exact .refl _
theorem tmod_neg_lt {a m : Int} (hm : 0 < m) : -m < a.tmod m ∧ a.tmod m < m := by
  have h1 := Int.tmod_lt_of_pos a hm
  have h2 : -(m) < a.tmod m := by
    have := Int.tmod_lt_of_pos (-a) hm
    rw [Int.neg_tmod] at this
    omega
  exact ⟨h2, h1⟩
theorem turn_neg {n m : Int} (hm : 0 < m) (h : n.tmod m < 0) : n.tmod m + m = n % m := by
  have p1 := Int.emod_nonneg n (show m ≠ 0 by omega)
  have p2 := Int.emod_lt_of_pos n hm
  have p3 := @Int.emod_eq_tmod n m
  split at p3 <;> omega
theorem turn_pos {n m : Int} (hm : 0 < m) (h : 0 ≤ n.tmod m) : n.tmod m = n % m := by
  have p1 := Int.emod_nonneg n (show m ≠ 0 by omega)
  have p2 := Int.emod_lt_of_pos n hm
  have p3 := @Int.emod_eq_tmod n m
  split at p3 <;> omega
noncomputable def b21 : Code := (Tryz.f21.body).getD .skip
theorem body21 : bodyOf Tryz.prog 21 = some (17, b21, [.tmp 4]) := by kernel_rfl
theorem pure21 : pureFn Tryz.prog 21 = true := by kernel_rfl
set_option maxHeartbeats 4000000 in
theorem ret21 (hi : Off is) (n m : Int) (hm : 0 < m) (hb : m ≤ 4611686018427387904) : RetP Tryz.prog is orc 21 [.int .i64 n, .int .i64 m] (.int .i64 (n % m)) := by
  refine ret_of body21 pure21 (hi 21 (by decide)) rfl rfl (dat_l2 (.int _ _ _) (.int _ _ _)) (.inl (.int _ _ _)) ?_
  refine k_seq (k_region ?_)
  refine o_assign rfl ?_
  refine o_nil ?_
  refine k_seq ?_
  refine k_seq (k_region ?_)
  refine o_move rfl ?_
  refine o_lss rfl rfl rfl ?_
  refine o_nil ?_
  refine k_cond rfl (fun h1 => ?_) (fun h1 => ?_)
  · refine k_seq (k_region ?_)
    refine o_assign rfl ?_
    refine o_nil ?_
    refine k_ret ?_
    refine ⟨.inr rfl, _, .cons _ _ _ _ (.tmp 4) .nil, ?_⟩
    exact absurd (of_decide_eq_true h1) (by omega)
  · refine k_skip ?_
    refine k_seq (k_region ?_)
    refine o_move rfl ?_
    refine o_move rfl ?_
    refine o_rem rfl rfl rfl (by omega) ?_
    refine o_assign rfl ?_
    refine o_nil ?_
    refine k_seq ?_
    refine k_seq (k_region ?_)
    refine o_move rfl ?_
    refine o_lss rfl rfl rfl ?_
    refine o_nil ?_
    refine k_cond rfl (fun h2 => ?_) (fun h2 => ?_)
    · refine k_region ?_
      refine o_move rfl ?_
      refine o_move rfl ?_
      refine o_add rfl rfl rfl (by have := tmod_neg_lt (a := n) hm; unfold I64; omega) ?_
      refine o_assign rfl ?_
      refine o_nil ?_
      refine k_seq (k_region ?_)
      refine o_move rfl ?_
      refine o_assign rfl ?_
      refine o_nil ?_
      refine k_ret ?_
      refine ⟨.inr rfl, _, .cons _ _ _ _ (.tmp 4) .nil, ?_⟩
      rw [show n.tmod m + m = n % m from turn_neg hm (of_decide_eq_true h2)]; exact .refl _
    · refine k_skip ?_
      refine k_seq (k_region ?_)
      refine o_move rfl ?_
      refine o_assign rfl ?_
      refine o_nil ?_
      refine k_ret ?_
      refine ⟨.inr rfl, _, .cons _ _ _ _ (.tmp 4) .nil, ?_⟩
      rw [show n.tmod m = n % m from turn_pos hm (by have := of_decide_eq_false h2; omega)]; exact .refl _
abbrev Bk.cs (b : Bk) : List U := [.lst .ro 3 (trisU b.lots), .int .i64 b.tlo, .int .i64 b.thi, .int .i64 b.thick, .int .i64 b.crack, .int .i64 b.glo, .int .i64 b.ghi, .lst .ro 2 (twosU b.thins), .int .i64 b.hot, .int .i64 b.least, .int .i64 b.clo, .int .i64 b.chi, .int .i64 b.coal, .lst .ro 3 (trisU b.looks)]
theorem by93 : Program.bytesOf Tryz.prog 93 = 32 := by kernel_rfl
theorem cl24 : Program.cellsOf Tryz.prog 24 = 2 := by kernel_rfl
theorem cl54 : Program.cellsOf Tryz.prog 54 = 3 := by kernel_rfl
theorem cl66 : Program.cellsOf Tryz.prog 66 = 3 := by kernel_rfl
theorem cl93 : Program.cellsOf Tryz.prog 93 = 4 := by kernel_rfl
theorem fld28_0 : fieldOf Tryz.prog 28 0 = some (0, 22) := by kernel_rfl
theorem fld28_10 : fieldOf Tryz.prog 28 10 = some (13, 26) := by kernel_rfl
theorem fld28_5 : fieldOf Tryz.prog 28 5 = some (7, 25) := by kernel_rfl
theorem fld54_0 : fieldOf Tryz.prog 54 0 = some (0, 3) := by kernel_rfl
theorem fld54_1 : fieldOf Tryz.prog 54 1 = some (1, 24) := by kernel_rfl
theorem fld66_0 : fieldOf Tryz.prog 66 0 = some (0, 3) := by kernel_rfl
theorem fld66_1 : fieldOf Tryz.prog 66 1 = some (1, 3) := by kernel_rfl
theorem fld66_2 : fieldOf Tryz.prog 66 2 = some (2, 3) := by kernel_rfl
theorem fld93_0 : fieldOf Tryz.prog 93 0 = some (0, 24) := by kernel_rfl
theorem fld93_1 : fieldOf Tryz.prog 93 1 = some (2, 3) := by kernel_rfl
theorem fld93_2 : fieldOf Tryz.prog 93 2 = some (3, 3) := by kernel_rfl
theorem pl93 : plcOf Tryz.prog 93 = some [(0, 2), (2, 1), (3, 1)] := by kernel_rfl
theorem sh22 : shOf Tryz.prog 22 = .one := by kernel_rfl
theorem sh25 : shOf Tryz.prog 25 = .one := by kernel_rfl
theorem sh26 : shOf Tryz.prog 26 = .one := by kernel_rfl
theorem sh54 : shOf Tryz.prog 54 = .many 3 := by kernel_rfl
theorem sh66 : shOf Tryz.prog 66 = .many 3 := by kernel_rfl
theorem sh93 : shOf Tryz.prog 93 = .many 4 := by kernel_rfl
theorem ty22 : tyOf Tryz.prog 22 = .slice 54 := by kernel_rfl
theorem ty25 : tyOf Tryz.prog 25 = .slice 24 := by kernel_rfl
theorem ty26 : tyOf Tryz.prog 26 = .slice 66 := by kernel_rfl
theorem ty94 : tyOf Tryz.prog 94 = .slice 93 := by kernel_rfl
theorem ze54 : zeroL Tryz.prog 54 = some ((.cons (.int .i64 0) (.cons (.int .i64 0) (.cons (.int .i64 0) .nil))) : V) := by kernel_rfl
theorem ze66 : zeroL Tryz.prog 66 = some ((.cons (.int .i64 0) (.cons (.int .i64 0) (.cons (.int .i64 0) .nil))) : V) := by kernel_rfl
theorem ze93 : zeroL Tryz.prog 93 = some ((.cons (.int .i64 0) (.cons (.int .i64 0) (.cons (.int .i64 0) (.cons (.int .i64 0) .nil)))) : V) := by kernel_rfl
theorem ap94_94 : AppT Tryz.prog 94 94 93 4 32 ((.cons (.int .i64 0) (.cons (.int .i64 0) (.cons (.int .i64 0) (.cons (.int .i64 0) .nil)))) : V) := ⟨ty94, ⟨_, ty94⟩, cl93, by decide, by93, ze93, rfl⟩
theorem at_old {l : List SB} {a : Nat} {x y : SB} (h : l[a]? = some x) : (l ++ [y])[a]? = some x := by
  rw [List.getElem?_append_left (List.getElem?_eq_some_iff.1 h).1]; exact h
theorem at_old2 {l : List SB} {a : Nat} {x y z : SB} (h : l[a]? = some x) : ((l ++ [y]).set l.length z)[a]? = some x := by
  have ha := (List.getElem?_eq_some_iff.1 h).1
  rw [List.getElem?_set_ne (by omega)]; exact at_old h
def bnd1 (q : Tri) : List Bnd := [⟨q.a, q.a, 0, 6⟩, ⟨q.b, q.c, 0, 1000⟩]
def bnd2 (q : Two) : List Bnd := [⟨q.a, q.b, 1, 20⟩]
def bnd3 (q : Tri) : List Bnd := [⟨q.a, q.a, 0, 300⟩, ⟨q.b, q.b, 0, 3000⟩, ⟨q.c, q.c, 0, 50⟩]
theorem snoc_bnds {α : Type} (f : α → List Bnd) (pre : List Bnd) {l : List α} {n : Nat} {q : α} (h : l[n]? = some q) : bndsU (pre ++ (l.take n).flatMap f) ++ (f q).map Bnd.u = bndsU (pre ++ (l.take (n + 1)).flatMap f) := by
  rw [List.take_add_one, h]
  simp [bndsU]
theorem flat_le {α : Type} (f : α → List Bnd) (c : Nat) (hf : ∀ q, (f q).length = c) (l : List α) (n : Nat) : ((l.take n).flatMap f).length ≤ c * l.length := by
  induction l generalizing n with
  | nil => simp
  | cons q l ih =>
    cases n with
    | zero => simp
    | succ n =>
      simp only [List.take_succ_cons, List.flatMap_cons, List.length_append, hf, List.length_cons]
      have := ih n
      rw [Nat.mul_succ]; omega
def bndsL (b : Bk) : List Bnd := b.lots.flatMap bnd1 ++ b.thins.flatMap bnd2 ++ b.looks.flatMap bnd3
noncomputable def b59 : Code := (Tryz.f59.body).getD .skip
theorem body59 : bodyOf Tryz.prog 59 = some (35, b59, [.tmp 2]) := by kernel_rfl
theorem pure59 : pureFn Tryz.prog 59 = true := by kernel_rfl
set_option maxHeartbeats 4000000 in
theorem ret59 (hi : Off is) (l : List Bnd) (hb : l.length ≤ 4096) : RetP Tryz.prog is orc 59 [.lst .ro 4 (bndsU l)] (.bool (l.all Bnd.ok)) := by
  refine ret_of body59 pure59 (hi 59 (by decide)) rfl rfl (dat_l1 (dat_bnds l .ro (fun h => by cases h) 6)) (.inl (.bool _ _)) ?_
  refine k_seq (k_region ?_)
  refine o_assign rfl ?_
  refine o_nil ?_
  refine k_seq ?_
  refine k_seq (k_region ?_)
  refine o_move rfl ?_
  refine o_len rfl ty94 rfl rfl ?_
  refine o_move rfl ?_
  refine o_nil ?_
  refine k_block ?_
  refine k_loop (fun k s => ∃ n : Nat, k + n = l.length ∧ (l.take n).all Bnd.ok = true ∧ Holds s [(5, .lst .ro 4 (bndsU l)), (6, .int .i64 (bndsU l).length), (7, .int .i64 n)]) (fun k s hI => ?_) l.length _ ?_
  · obtain ⟨n, hk, ho, hs⟩ := hI
    rw [hs.eq]
    refine k_seq (k_region ?_)
    refine o_lss rfl rfl rfl ?_
    refine o_nil ?_
    refine k_seq ?_
    refine k_cond rfl (fun h1 => ?_) (fun h1 => ?_)
    · have h3' : n < l.length := by
        have := of_decide_eq_true h1
        simp at this; omega
      obtain ⟨q, hq⟩ : ∃ q, l[n]? = some q := ⟨l[n], List.getElem?_eq_getElem h3'⟩
      refine k_skip ?_
      refine k_seq ?_
      refine k_block ?_
      refine k_seq (k_region ?_)
      refine o_idx (u := q.u) rfl ty94 rfl rfl (Int.natCast_nonneg n) (by simp [hq]) cl93 ?_
      refine o_loadRN rfl rfl sh93 rfl ?_
      refine o_alloc rfl ze93 ?_
      refine o_storeN rfl (at_new _ _) sh93 rfl rfl rfl rfl rfl ?_
      refine o_nil ?_
      refine k_seq (k_region ?_)
      refine o_faddr rfl rfl fld93_0 ?_
      refine o_faddr rfl rfl fld24_0 ?_
      refine o_load1 rfl rfl (at_set _ _ _) sh3 rfl ?_
      refine o_faddr rfl rfl fld93_0 ?_
      refine o_faddr rfl rfl fld24_1 ?_
      refine o_load1 rfl rfl (at_set _ _ _) sh3 rfl ?_
      refine o_gtr rfl rfl rfl ?_
      refine o_move rfl ?_
      refine o_guard rfl rfl rfl rfl (fun h2 => ?_) (fun h2 => ?_)
      · refine o_faddr rfl rfl fld93_0 ?_
        refine o_gD rfl rfl rfl rfl h2 ?_
        refine o_faddr rfl rfl fld24_0 ?_
        refine o_gD rfl rfl rfl rfl h2 ?_
        refine o_load1 rfl rfl (at_set _ _ _) sh3 rfl ?_
        refine o_gD rfl rfl rfl rfl h2 ?_
        refine o_faddr rfl rfl fld93_1 ?_
        refine o_gD rfl rfl rfl rfl h2 ?_
        refine o_load1 rfl rfl (at_set _ _ _) sh3 rfl ?_
        refine o_gD rfl rfl rfl rfl h2 ?_
        refine o_lss rfl rfl rfl ?_
        refine o_pickF rfl rfl h2 ?_
        refine o_move rfl ?_
        refine o_guard rfl rfl rfl rfl (fun h3 => ?_) (fun h3 => ?_)
        · refine o_faddr rfl rfl fld93_0 ?_
          refine o_gD rfl rfl rfl rfl h3 ?_
          refine o_faddr rfl rfl fld24_1 ?_
          refine o_gD rfl rfl rfl rfl h3 ?_
          refine o_load1 rfl rfl (at_set _ _ _) sh3 rfl ?_
          refine o_gD rfl rfl rfl rfl h3 ?_
          refine o_faddr rfl rfl fld93_2 ?_
          refine o_gD rfl rfl rfl rfl h3 ?_
          refine o_load1 rfl rfl (at_set _ _ _) sh3 rfl ?_
          refine o_gD rfl rfl rfl rfl h3 ?_
          refine o_gtr rfl rfl rfl ?_
          refine o_pickF rfl rfl h3 ?_
          refine o_nil ?_
          refine k_cond rfl (fun h4 => ?_) (fun h4 => ?_)
          · refine k_seq (k_region ?_)
            refine o_assign rfl ?_
            refine o_nil ?_
            refine k_ret ?_
            refine ⟨.inr rfl, _, .cons _ _ _ _ (.tmp 2) .nil, ?_⟩
            have e : q.ok = false := by
              have a := of_decide_eq_true h4
              unfold Bnd.ok; simp; omega
            rw [all_not hq e]; exact .refl _
          · refine k_skip ?_
            refine k_region ?_
            refine o_add rfl rfl rfl (by unfold I64; omega) ?_
            refine o_move rfl ?_
            refine o_nil ?_
            have e : q.ok = true := by
              have a := of_decide_eq_false h2
              have b := of_decide_eq_false h3
              have c := of_decide_eq_false h4
              unfold Bnd.ok; simp; omega
            exact ⟨k - 1, by omega, n + 1, by omega, all_take hq ho e, .cons rfl (.cons rfl (.cons rfl (.nil rfl)))⟩
        · refine o_gS rfl rfl rfl rfl h3 ?_
          refine o_gS rfl rfl rfl rfl h3 ?_
          refine o_gS rfl rfl rfl rfl h3 ?_
          refine o_gS rfl rfl rfl rfl h3 ?_
          refine o_gS rfl rfl rfl rfl h3 ?_
          refine o_pickT rfl rfl h3 ?_
          refine o_nil ?_
          refine k_cond rfl (fun _ => ?_) (fun h => by cases h)
          refine k_seq (k_region ?_)
          refine o_assign rfl ?_
          refine o_nil ?_
          refine k_ret ?_
          refine ⟨.inr rfl, _, .cons _ _ _ _ (.tmp 2) .nil, ?_⟩
          have e : q.ok = false := by
            have a := of_decide_eq_true h3
            unfold Bnd.ok; simp; omega
          rw [all_not hq e]; exact .refl _
      · refine o_gS rfl rfl rfl rfl h2 ?_
        refine o_gS rfl rfl rfl rfl h2 ?_
        refine o_gS rfl rfl rfl rfl h2 ?_
        refine o_gS rfl rfl rfl rfl h2 ?_
        refine o_gS rfl rfl rfl rfl h2 ?_
        refine o_pickT rfl rfl h2 ?_
        refine o_move rfl ?_
        refine o_gS rfl rfl rfl rfl rfl ?_
        refine o_gS rfl rfl rfl rfl rfl ?_
        refine o_gS rfl rfl rfl rfl rfl ?_
        refine o_gS rfl rfl rfl rfl rfl ?_
        refine o_gS rfl rfl rfl rfl rfl ?_
        refine o_gS rfl rfl rfl rfl rfl ?_
        refine o_pickT rfl rfl rfl ?_
        refine o_nil ?_
        refine k_cond rfl (fun _ => ?_) (fun h => by cases h)
        refine k_seq (k_region ?_)
        refine o_assign rfl ?_
        refine o_nil ?_
        refine k_ret ?_
        refine ⟨.inr rfl, _, .cons _ _ _ _ (.tmp 2) .nil, ?_⟩
        have e : q.ok = false := by
          have a := of_decide_eq_true h2
          unfold Bnd.ok; simp; omega
        rw [all_not hq e]; exact .refl _
    · refine k_exit ?_
      refine k_seq (k_region ?_)
      refine o_assign rfl ?_
      refine o_nil ?_
      refine k_ret ?_
      refine ⟨.inr rfl, _, .cons _ _ _ _ (.tmp 2) .nil, ?_⟩
      have h3' : n = l.length := by
        have := of_decide_eq_false h1
        simp at this; omega
      have h6 : l.all Bnd.ok = true := by rw [h3', List.take_length] at ho; exact ho
      rw [h6]; exact .refl _
  · exact ⟨0, rfl, rfl, .cons rfl (.cons rfl (.cons rfl (.nil rfl)))⟩
noncomputable def b60 : Code := (Tryz.f60.body).getD .skip
theorem body60 : bodyOf Tryz.prog 60 = some (65, b60, [.tmp 2]) := by kernel_rfl
theorem pure60 : pureFn Tryz.prog 60 = true := by kernel_rfl
set_option maxHeartbeats 4000000 in
theorem ret60 (hi : Off is) (b : Bk) (h1 : b.lots.length ≤ 4) (h2 : b.thins.length = 3) (h3 : b.looks.length ≤ 8) : RetP Tryz.prog is orc 60 [b.u] (.lst .ro 4 (bndsU (bndsL b))) := by
  refine ret_of body60 pure60 (hi 60 (by decide)) rfl rfl (dat_l1 (dat_bk b 5)) (.inl (dat_bnds _ .ro (fun h => by cases h) 6)) ?_
  have l1 : (b.lots.flatMap bnd1).length ≤ 8 := by have := flat_le bnd1 2 (fun _ => rfl) b.lots b.lots.length; rw [List.take_length] at this; omega
  have l2 : (b.thins.flatMap bnd2).length ≤ 3 := by have := flat_le bnd2 1 (fun _ => rfl) b.thins b.thins.length; rw [List.take_length] at this; omega
  have l0 : ([] : List Bnd).length = 0 := rfl
  refine k_seq (k_region ?_)
  refine o_box rfl rfl ?_
  refine o_assign rfl ?_
  refine o_nil ?_
  refine k_seq (k_region ?_)
  refine o_assignN 4 rfl (fun _ => rfl) ?_
  refine o_nil ?_
  refine k_seq ?_
  refine k_seq (k_region ?_)
  refine o_faddr rfl rfl fld28_0 ?_
  refine o_load1 rfl rfl rfl sh22 rfl ?_
  refine o_len rfl ty22 rfl rfl ?_
  refine o_move rfl ?_
  refine o_nil ?_
  refine k_block ?_
  refine k_loop (fun k s => ∃ n : Nat, k + n = b.lots.length ∧ s.st[0]? = some (.box b.cs) ∧ Holds s [(1, .box 0 0), (3, .lst .own 4 (bndsU ([] ++ (b.lots.take n).flatMap bnd1))), (11, .lst .ro 3 (trisU b.lots)), (12, .int .i64 (trisU b.lots).length), (13, .int .i64 n)]) (fun k s hI => ?_) b.lots.length _ ?_
  · obtain ⟨n, hk, hst, hs⟩ := hI
    rw [hs.eq]
    refine k_seq (k_region ?_)
    refine o_lss rfl rfl rfl ?_
    refine o_nil ?_
    refine k_seq ?_
    refine k_cond rfl (fun h1 => ?_) (fun h1 => ?_)
    · have h3' : n < b.lots.length := by
        have := of_decide_eq_true h1
        simp at this; omega
      obtain ⟨q, hq⟩ : ∃ q, b.lots[n]? = some q := ⟨b.lots[n], List.getElem?_eq_getElem h3'⟩
      refine k_skip ?_
      refine k_seq ?_
      refine k_block ?_
      refine k_seq (k_region ?_)
      refine o_idx (u := q.u) rfl ty22 rfl rfl (Int.natCast_nonneg n) (by simp [hq]) cl54 ?_
      refine o_loadRN rfl rfl sh54 rfl ?_
      refine o_alloc rfl ze54 ?_
      refine o_storeN rfl (at_new _ _) sh54 rfl rfl rfl rfl rfl ?_
      refine o_nil ?_
      refine k_draw [.plain, .plain, .read true, .read false, .plain, .plain, .read true, .plain, .plain, .plain, .plain] (by kernel_rfl) (by kernel_rfl) (by kernel_rfl) ?_
      refine d_plain (o_move rfl (o_nil rfl)) ?_
      refine d_plain (o_faddr rfl rfl fld54_0 (o_nil rfl)) ?_
      refine d_load rfl (o_load1 rfl rfl (at_set _ _ _) sh3 rfl (o_nil rfl)) ?_
      refine d_callR rfl (ret58 hi _) (flat_span _ _) (.lrefl _) ?_
      refine d_plain (o_build rfl ze93 pl93 rfl rfl (o_nil rfl)) ?_
      refine d_plain (o_faddr rfl rfl fld54_1 (o_nil rfl)) ?_
      refine d_load rfl (o_loadN rfl rfl (at_set _ _ _) sh24 rfl (o_nil rfl)) ?_
      refine d_plain (o_build rfl ze93 pl93 rfl rfl (o_nil rfl)) ?_
      refine d_plain (o_lit rfl ty94 ze93 cl93 rfl rfl rfl rfl rfl rfl rfl rfl (o_nil rfl)) ?_
      refine d_plain (o_appendS 3 rfl ap94_94 rfl rfl rfl (.inl rfl) (.inl rfl) rfl (by show ((bndsU ([] ++ (b.lots.take n).flatMap bnd1)).length + 2) * (32 + 4) ≤ 16777216; simp only [List.length_map, List.length_append]; have := flat_le bnd1 2 (fun _ => rfl) b.lots n; omega) (o_nil rfl)) ?_
      refine d_plain (o_assign rfl (o_nil rfl)) ?_
      refine d_nil ?_
      refine k_region ?_
      refine o_add rfl rfl rfl (by unfold I64; omega) ?_
      refine o_move rfl ?_
      refine o_nil ?_
      exact ⟨k - 1, by omega, n + 1, by omega, (by first | exact hst | exact at_old2 hst), .cons rfl (.cons (congrArg (U.lst .own 4) (snoc_bnds bnd1 ([]) hq)) (.cons rfl (.cons rfl (.cons rfl (.nil rfl)))))⟩
    · refine k_exit ?_
      refine k_seq ?_
      refine k_seq (k_region ?_)
      refine o_faddr rfl rfl fld28_5 ?_
      refine o_load1 rfl rfl hst sh25 rfl ?_
      refine o_len rfl ty25 rfl rfl ?_
      refine o_move rfl ?_
      refine o_nil ?_
      refine k_block ?_
      refine k_loop (fun k s => ∃ n : Nat, k + n = b.thins.length ∧ s.st[0]? = some (.box b.cs) ∧ Holds s [(1, .box 0 0), (3, .lst .own 4 (bndsU (b.lots.flatMap bnd1 ++ (b.thins.take n).flatMap bnd2))), (29, .lst .ro 2 (twosU b.thins)), (30, .int .i64 (twosU b.thins).length), (31, .int .i64 n)]) (fun k s hI => ?_) b.thins.length _ ?_
      · obtain ⟨n, hk, hst, hs⟩ := hI
        rw [hs.eq]
        refine k_seq (k_region ?_)
        refine o_lss rfl rfl rfl ?_
        refine o_nil ?_
        refine k_seq ?_
        refine k_cond rfl (fun h2 => ?_) (fun h2 => ?_)
        · have h3' : n < b.thins.length := by
            have := of_decide_eq_true h2
            simp at this; omega
          obtain ⟨q, hq⟩ : ∃ q, b.thins[n]? = some q := ⟨b.thins[n], List.getElem?_eq_getElem h3'⟩
          refine k_skip ?_
          refine k_seq ?_
          refine k_block ?_
          refine k_seq (k_region ?_)
          refine o_idx (u := q.u) rfl ty25 rfl rfl (Int.natCast_nonneg n) (by simp [hq]) cl24 ?_
          refine o_loadRN rfl rfl sh24 rfl ?_
          refine o_alloc rfl ze24 ?_
          refine o_storeN rfl (at_new _ _) sh24 rfl rfl rfl rfl rfl ?_
          refine o_nil ?_
          refine k_region ?_
          refine o_move rfl ?_
          refine o_loadN rfl rfl (at_set _ _ _) sh24 rfl ?_
          refine o_build rfl ze93 pl93 rfl rfl ?_
          refine o_lit rfl ty94 ze93 cl93 rfl rfl rfl rfl rfl rfl rfl rfl ?_
          refine o_appendS 3 rfl ap94_94 rfl rfl rfl (.inl rfl) (.inl rfl) rfl (by show ((bndsU (b.lots.flatMap bnd1 ++ (b.thins.take n).flatMap bnd2)).length + 1) * (32 + 4) ≤ 16777216; simp only [List.length_map, List.length_append]; have := flat_le bnd2 1 (fun _ => rfl) b.thins n; omega) ?_
          refine o_assign rfl ?_
          refine o_nil ?_
          refine k_region ?_
          refine o_add rfl rfl rfl (by unfold I64; omega) ?_
          refine o_move rfl ?_
          refine o_nil ?_
          exact ⟨k - 1, by omega, n + 1, by omega, (by first | exact hst | exact at_old2 hst), .cons rfl (.cons (congrArg (U.lst .own 4) (snoc_bnds bnd2 (b.lots.flatMap bnd1) hq)) (.cons rfl (.cons rfl (.cons rfl (.nil rfl)))))⟩
        · refine k_exit ?_
          refine k_seq ?_
          refine k_seq (k_region ?_)
          refine o_faddr rfl rfl fld28_10 ?_
          refine o_load1 rfl rfl hst sh26 rfl ?_
          refine o_len rfl ty26 rfl rfl ?_
          refine o_move rfl ?_
          refine o_nil ?_
          refine k_block ?_
          refine k_loop (fun k s => ∃ n : Nat, k + n = b.looks.length ∧ s.st[0]? = some (.box b.cs) ∧ Holds s [(1, .box 0 0), (3, .lst .own 4 (bndsU ((b.lots.flatMap bnd1 ++ b.thins.flatMap bnd2) ++ (b.looks.take n).flatMap bnd3))), (42, .lst .ro 3 (trisU b.looks)), (43, .int .i64 (trisU b.looks).length), (44, .int .i64 n)]) (fun k s hI => ?_) b.looks.length _ ?_
          · obtain ⟨n, hk, hst, hs⟩ := hI
            rw [hs.eq]
            refine k_seq (k_region ?_)
            refine o_lss rfl rfl rfl ?_
            refine o_nil ?_
            refine k_seq ?_
            refine k_cond rfl (fun h3 => ?_) (fun h3 => ?_)
            · have h3' : n < b.looks.length := by
                have := of_decide_eq_true h3
                simp at this; omega
              obtain ⟨q, hq⟩ : ∃ q, b.looks[n]? = some q := ⟨b.looks[n], List.getElem?_eq_getElem h3'⟩
              refine k_skip ?_
              refine k_seq ?_
              refine k_block ?_
              refine k_seq (k_region ?_)
              refine o_idx (u := q.u) rfl ty26 rfl rfl (Int.natCast_nonneg n) (by simp [hq]) cl66 ?_
              refine o_loadRN rfl rfl sh66 rfl ?_
              refine o_alloc rfl ze66 ?_
              refine o_storeN rfl (at_new _ _) sh66 rfl rfl rfl rfl rfl ?_
              refine o_nil ?_
              refine k_draw [.plain, .plain, .read true, .read false, .plain, .plain, .read true, .read false, .plain, .plain, .read true, .plain, .plain, .plain, .plain, .plain] (by kernel_rfl) (by kernel_rfl) (by kernel_rfl) ?_
              refine d_plain (o_move rfl (o_nil rfl)) ?_
              refine d_plain (o_faddr rfl rfl fld66_0 (o_nil rfl)) ?_
              refine d_load rfl (o_load1 rfl rfl (at_set _ _ _) sh3 rfl (o_nil rfl)) ?_
              refine d_callR rfl (ret58 hi _) (flat_span _ _) (.lrefl _) ?_
              refine d_plain (o_build rfl ze93 pl93 rfl rfl (o_nil rfl)) ?_
              refine d_plain (o_faddr rfl rfl fld66_1 (o_nil rfl)) ?_
              refine d_load rfl (o_load1 rfl rfl (at_set _ _ _) sh3 rfl (o_nil rfl)) ?_
              refine d_callR rfl (ret58 hi _) (flat_span _ _) (.lrefl _) ?_
              refine d_plain (o_build rfl ze93 pl93 rfl rfl (o_nil rfl)) ?_
              refine d_plain (o_faddr rfl rfl fld66_2 (o_nil rfl)) ?_
              refine d_load rfl (o_load1 rfl rfl (at_set _ _ _) sh3 rfl (o_nil rfl)) ?_
              refine d_plain (o_call rfl (ret58 hi _) (.lrefl _) (o_nil rfl)) ?_
              refine d_plain (o_build rfl ze93 pl93 rfl rfl (o_nil rfl)) ?_
              refine d_plain (o_lit rfl ty94 ze93 cl93 rfl rfl rfl rfl rfl rfl rfl rfl (o_nil rfl)) ?_
              refine d_plain (o_appendS 3 rfl ap94_94 rfl rfl rfl (.inl rfl) (.inl rfl) rfl (by show ((bndsU ((b.lots.flatMap bnd1 ++ b.thins.flatMap bnd2) ++ (b.looks.take n).flatMap bnd3)).length + 3) * (32 + 4) ≤ 16777216; simp only [List.length_map, List.length_append]; have := flat_le bnd3 3 (fun _ => rfl) b.looks n; omega) (o_nil rfl)) ?_
              refine d_plain (o_assign rfl (o_nil rfl)) ?_
              refine d_nil ?_
              refine k_region ?_
              refine o_add rfl rfl rfl (by unfold I64; omega) ?_
              refine o_move rfl ?_
              refine o_nil ?_
              exact ⟨k - 1, by omega, n + 1, by omega, (by first | exact hst | exact at_old2 hst), .cons rfl (.cons (congrArg (U.lst .own 4) (snoc_bnds bnd3 ((b.lots.flatMap bnd1 ++ b.thins.flatMap bnd2)) hq)) (.cons rfl (.cons rfl (.cons rfl (.nil rfl)))))⟩
            · refine k_exit ?_
              refine k_seq (k_region ?_)
              refine o_move rfl ?_
              refine o_assign rfl ?_
              refine o_nil ?_
              refine k_ret ?_
              refine ⟨.inr rfl, _, .cons _ _ _ _ (.tmp 2) .nil, ?_⟩
              have := of_decide_eq_false h3
              simp at this
              have e : n = b.looks.length := by omega
              subst e
              rw [List.take_length]
              exact .ro _ _ _
          · exact ⟨0, rfl, hst, .cons rfl (.cons (by have := of_decide_eq_false h2; simp at this; have e : n = b.thins.length := (by omega); subst e; show U.lst .own 4 _ = _; simp) (.cons rfl (.cons rfl (.cons rfl (.nil rfl)))))⟩
      · exact ⟨0, rfl, hst, .cons rfl (.cons (by have := of_decide_eq_false h1; simp at this; have e : n = b.lots.length := (by omega); subst e; show U.lst .own 4 _ = _; simp) (.cons rfl (.cons rfl (.cons rfl (.nil rfl)))))⟩
  · exact ⟨0, rfl, rfl, .cons rfl (.cons rfl (.cons rfl (.cons rfl (.cons rfl (.nil rfl)))))⟩
theorem cl3 : Program.cellsOf Tryz.prog 3 = 1 := by kernel_rfl
theorem fld28_1 : fieldOf Tryz.prog 28 1 = some (1, 24) := by kernel_rfl
theorem fld28_2 : fieldOf Tryz.prog 28 2 = some (3, 3) := by kernel_rfl
theorem fld28_3 : fieldOf Tryz.prog 28 3 = some (4, 3) := by kernel_rfl
theorem fld28_4 : fieldOf Tryz.prog 28 4 = some (5, 24) := by kernel_rfl
theorem fld28_6 : fieldOf Tryz.prog 28 6 = some (8, 3) := by kernel_rfl
theorem fld28_7 : fieldOf Tryz.prog 28 7 = some (9, 3) := by kernel_rfl
theorem fld28_8 : fieldOf Tryz.prog 28 8 = some (10, 24) := by kernel_rfl
theorem fld28_9 : fieldOf Tryz.prog 28 9 = some (12, 3) := by kernel_rfl
theorem fld60_0 : fieldOf Tryz.prog 60 0 = some (0, 28) := by kernel_rfl
theorem fld60_1 : fieldOf Tryz.prog 60 1 = some (14, 57) := by kernel_rfl
theorem pl60 : plcOf Tryz.prog 60 = some [(0, 14), (14, 4), (18, 1)] := by kernel_rfl
theorem sh28 : shOf Tryz.prog 28 = .many 14 := by kernel_rfl
theorem sh60 : shOf Tryz.prog 60 = .many 19 := by kernel_rfl
theorem ty57 : tyOf Tryz.prog 57 = .array 4 3 := by kernel_rfl
theorem ze60 : zeroL Tryz.prog 60 = some ((.cons .nils (.cons (.int .i64 0) (.cons (.int .i64 0) (.cons (.int .i64 0) (.cons (.int .i64 0) (.cons (.int .i64 0) (.cons (.int .i64 0) (.cons .nils (.cons (.int .i64 0) (.cons (.int .i64 0) (.cons (.int .i64 0) (.cons (.int .i64 0) (.cons (.int .i64 0) (.cons .nils (.cons (.int .i64 0) (.cons (.int .i64 0) (.cons (.int .i64 0) (.cons (.int .i64 0) (.cons .nils .nil))))))))))))))))))) : V) := by kernel_rfl
def bnds0 (b : Bk) : List Bnd := [⟨(trisU b.lots).length, (trisU b.lots).length, 1, 4⟩, ⟨(twosU b.thins).length, (twosU b.thins).length, 3, 3⟩, ⟨(trisU b.looks).length, (trisU b.looks).length, 0, 8⟩, ⟨b.tlo, b.thi, 0, 1000⟩, ⟨b.thick, b.thick, 1, 3000⟩, ⟨b.crack, b.crack, 0, 3000⟩, ⟨b.glo, b.ghi, 0, 3000⟩, ⟨b.hot, b.hot, 0, 1500⟩, ⟨b.least, b.least, 0, b.hot⟩, ⟨b.clo, b.chi, 1, 300⟩, ⟨b.coal, b.coal, 0, 100⟩]
def valid (b : Bk) : Bool := (bnds0 b).all Bnd.ok && (bndsL b).all Bnd.ok
structure Ok0 (b : Bk) : Prop where
  nl : 1 ≤ b.lots.length ∧ b.lots.length ≤ 4
  nt : b.thins.length = 3
  nk : b.looks.length ≤ 8
  tin : 0 ≤ b.tlo ∧ b.tlo ≤ b.thi ∧ b.thi ≤ 1000
  thick : 1 ≤ b.thick ∧ b.thick ≤ 3000
  crack : 0 ≤ b.crack ∧ b.crack ≤ 3000
  goal : 0 ≤ b.glo ∧ b.glo ≤ b.ghi ∧ b.ghi ≤ 3000
  hot : 0 ≤ b.hot ∧ b.hot ≤ 1500
  least : 0 ≤ b.least ∧ b.least ≤ b.hot
  cool : 1 ≤ b.clo ∧ b.clo ≤ b.chi ∧ b.chi ≤ 300
  coal : 0 ≤ b.coal ∧ b.coal ≤ 100
theorem ok0_of {b : Bk} (h : (bnds0 b).all Bnd.ok = true) : Ok0 b := by
  unfold bnds0 Bnd.ok at h
  simp at h
  obtain ⟨h1, h2, h3, h4, h5, h6, h7, h8, h9, h10, h11⟩ := h
  exact ⟨by omega, by omega, by omega, by omega, by omega, by omega, by omega, by omega, by omega, by omega, by omega⟩
structure Ok (b : Bk) : Prop extends Ok0 b where
  lots : ∀ q ∈ b.lots, 0 ≤ q.a ∧ q.a ≤ 6 ∧ 0 ≤ q.b ∧ q.b ≤ q.c ∧ q.c ≤ 1000
  thins : ∀ q ∈ b.thins, 1 ≤ q.a ∧ q.a ≤ q.b ∧ q.b ≤ 20
  looks : ∀ q ∈ b.looks, 0 ≤ q.a ∧ q.a ≤ 300 ∧ 0 ≤ q.b ∧ q.b ≤ 3000 ∧ 0 ≤ q.c ∧ q.c ≤ 50
theorem valid_ok {b : Bk} (h : valid b = true) : Ok b := by
  unfold valid at h
  rw [Bool.and_eq_true] at h
  obtain ⟨h1, h2⟩ := h
  unfold bndsL at h2
  rw [List.all_append, List.all_append, Bool.and_eq_true, Bool.and_eq_true, List.all_flatMap, List.all_flatMap, List.all_flatMap, List.all_eq_true, List.all_eq_true, List.all_eq_true] at h2
  refine ⟨ok0_of h1, fun q hq => ?_, fun q hq => ?_, fun q hq => ?_⟩
  · have := h2.1.1 q hq
    simp [bnd1, Bnd.ok] at this; omega
  · have := h2.1.2 q hq
    simp [bnd2, Bnd.ok] at this; omega
  · have := h2.2 q hq
    simp [bnd3, Bnd.ok] at this; omega
theorem ok_valid {b : Bk} (h : Ok b) : valid b = true := by
  obtain ⟨⟨a1, a2, a3, a4, a5, a6, a7, a8, a9, a10, a11⟩, h1, h2, h3⟩ := h
  unfold valid
  rw [Bool.and_eq_true]
  refine ⟨?_, ?_⟩
  · unfold bnds0 Bnd.ok
    simp; omega
  · unfold bndsL
    rw [List.all_append, List.all_append, Bool.and_eq_true, Bool.and_eq_true, List.all_flatMap, List.all_flatMap, List.all_flatMap, List.all_eq_true, List.all_eq_true, List.all_eq_true]
    refine ⟨⟨fun q hq => ?_, fun q hq => ?_⟩, fun q hq => ?_⟩
    · have := h1 q hq
      simp [bnd1, Bnd.ok]; omega
    · have := h2 q hq
      simp [bnd2, Bnd.ok]; omega
    · have := h3 q hq
      simp [bnd3, Bnd.ok]; omega
theorem bndsL_len {b : Bk} (h1 : b.lots.length ≤ 4) (h2 : b.thins.length = 3) (h3 : b.looks.length ≤ 8) : (bndsL b).length ≤ 35 := by
  unfold bndsL
  simp only [List.length_append]
  have l1 := flat_le bnd1 2 (fun _ => rfl) b.lots b.lots.length
  have l2 := flat_le bnd2 1 (fun _ => rfl) b.thins b.thins.length
  have l3 := flat_le bnd3 3 (fun _ => rfl) b.looks b.looks.length
  rw [List.take_length] at l1 l2 l3
  omega
def checkR (b : Bk) : Int := if valid b then 0 else 20
noncomputable def b32 : Code := (Tryz.f32.body).getD .skip
theorem body32 : bodyOf Tryz.prog 32 = some (58, b32, [.tmp 2]) := by kernel_rfl
theorem pure32 : pureFn Tryz.prog 32 = true := by kernel_rfl
set_option maxHeartbeats 4000000 in
theorem ret32 (hi : Off is) (b : Bk) : RetP Tryz.prog is orc 32 [b.u] (.bool (valid b)) := by
  refine ret_of body32 pure32 (hi 32 (by decide)) rfl rfl (dat_l1 (dat_bk b 5)) (.inl (.bool _ _)) ?_
  refine k_seq (k_region ?_)
  refine o_box rfl rfl ?_
  refine o_assign rfl ?_
  refine o_nil ?_
  refine k_seq ?_
  refine k_draw [.plain, .read true, .read true, .read false, .plain, .plain, .read true, .read true, .read false, .plain, .plain, .read true, .read true, .read false, .plain, .plain, .read true, .plain, .plain, .read true, .read false, .plain, .plain, .read true, .read false, .plain, .plain, .read true, .plain, .plain, .read true, .read false, .plain, .plain, .read true, .read false, .plain, .read true, .plain, .plain, .read true, .plain, .plain, .read true, .read false, .plain, .plain, .plain] (by kernel_rfl) (by kernel_rfl) (by kernel_rfl) ?_
  refine d_plain (o_faddr rfl rfl fld28_0 (o_nil rfl)) ?_
  refine d_load rfl (o_load1 rfl rfl rfl sh22 rfl (o_nil rfl)) ?_
  refine d_load rfl (o_len rfl ty22 rfl rfl (o_nil rfl)) ?_
  refine d_callR rfl (ret58 hi ((trisU b.lots).length : Int)) (flat_span _ _) (.lrefl _) ?_
  refine d_plain (o_build (cs := [.int .i64 ((trisU b.lots).length : Int), .int .i64 ((trisU b.lots).length : Int), .int .i64 1, .int .i64 4]) rfl ze93 pl93 rfl rfl (o_nil rfl)) ?_
  refine d_plain (o_faddr rfl rfl fld28_5 (o_nil rfl)) ?_
  refine d_load rfl (o_load1 rfl rfl rfl sh25 rfl (o_nil rfl)) ?_
  refine d_load rfl (o_len rfl ty25 rfl rfl (o_nil rfl)) ?_
  refine d_callR rfl (ret58 hi ((twosU b.thins).length : Int)) (flat_span _ _) (.lrefl _) ?_
  refine d_plain (o_build (cs := [.int .i64 ((twosU b.thins).length : Int), .int .i64 ((twosU b.thins).length : Int), .int .i64 3, .int .i64 3]) rfl ze93 pl93 rfl rfl (o_nil rfl)) ?_
  refine d_plain (o_faddr rfl rfl fld28_10 (o_nil rfl)) ?_
  refine d_load rfl (o_load1 rfl rfl rfl sh26 rfl (o_nil rfl)) ?_
  refine d_load rfl (o_len rfl ty26 rfl rfl (o_nil rfl)) ?_
  refine d_callR rfl (ret58 hi ((trisU b.looks).length : Int)) (flat_span _ _) (.lrefl _) ?_
  refine d_plain (o_build (cs := [.int .i64 ((trisU b.looks).length : Int), .int .i64 ((trisU b.looks).length : Int), .int .i64 0, .int .i64 8]) rfl ze93 pl93 rfl rfl (o_nil rfl)) ?_
  refine d_plain (o_faddr rfl rfl fld28_1 (o_nil rfl)) ?_
  refine d_load rfl (o_loadN rfl rfl rfl sh24 rfl (o_nil rfl)) ?_
  refine d_plain (o_build (cs := [.int .i64 b.tlo, .int .i64 b.thi, .int .i64 0, .int .i64 1000]) rfl ze93 pl93 rfl rfl (o_nil rfl)) ?_
  refine d_plain (o_faddr rfl rfl fld28_2 (o_nil rfl)) ?_
  refine d_load rfl (o_load1 rfl rfl rfl sh3 rfl (o_nil rfl)) ?_
  refine d_callR rfl (ret58 hi b.thick) (flat_span _ _) (.lrefl _) ?_
  refine d_plain (o_build (cs := [.int .i64 b.thick, .int .i64 b.thick, .int .i64 1, .int .i64 3000]) rfl ze93 pl93 rfl rfl (o_nil rfl)) ?_
  refine d_plain (o_faddr rfl rfl fld28_3 (o_nil rfl)) ?_
  refine d_load rfl (o_load1 rfl rfl rfl sh3 rfl (o_nil rfl)) ?_
  refine d_callR rfl (ret58 hi b.crack) (flat_span _ _) (.lrefl _) ?_
  refine d_plain (o_build (cs := [.int .i64 b.crack, .int .i64 b.crack, .int .i64 0, .int .i64 3000]) rfl ze93 pl93 rfl rfl (o_nil rfl)) ?_
  refine d_plain (o_faddr rfl rfl fld28_4 (o_nil rfl)) ?_
  refine d_load rfl (o_loadN rfl rfl rfl sh24 rfl (o_nil rfl)) ?_
  refine d_plain (o_build (cs := [.int .i64 b.glo, .int .i64 b.ghi, .int .i64 0, .int .i64 3000]) rfl ze93 pl93 rfl rfl (o_nil rfl)) ?_
  refine d_plain (o_faddr rfl rfl fld28_6 (o_nil rfl)) ?_
  refine d_load rfl (o_load1 rfl rfl rfl sh3 rfl (o_nil rfl)) ?_
  refine d_callR rfl (ret58 hi b.hot) (flat_span _ _) (.lrefl _) ?_
  refine d_plain (o_build (cs := [.int .i64 b.hot, .int .i64 b.hot, .int .i64 0, .int .i64 1500]) rfl ze93 pl93 rfl rfl (o_nil rfl)) ?_
  refine d_plain (o_faddr rfl rfl fld28_7 (o_nil rfl)) ?_
  refine d_load rfl (o_load1 rfl rfl rfl sh3 rfl (o_nil rfl)) ?_
  refine d_callR rfl (ret58 hi b.least) (flat_span _ _) (.lrefl _) ?_
  refine d_plain (o_faddr rfl rfl fld28_6 (o_nil rfl)) ?_
  refine d_load rfl (o_load1 rfl rfl rfl sh3 rfl (o_nil rfl)) ?_
  refine d_plain (o_build (cs := [.int .i64 b.least, .int .i64 b.least, .int .i64 0, .int .i64 b.hot]) rfl ze93 pl93 rfl rfl (o_nil rfl)) ?_
  refine d_plain (o_faddr rfl rfl fld28_8 (o_nil rfl)) ?_
  refine d_load rfl (o_loadN rfl rfl rfl sh24 rfl (o_nil rfl)) ?_
  refine d_plain (o_build (cs := [.int .i64 b.clo, .int .i64 b.chi, .int .i64 1, .int .i64 300]) rfl ze93 pl93 rfl rfl (o_nil rfl)) ?_
  refine d_plain (o_faddr rfl rfl fld28_9 (o_nil rfl)) ?_
  refine d_load rfl (o_load1 rfl rfl rfl sh3 rfl (o_nil rfl)) ?_
  refine d_callR rfl (ret58 hi b.coal) (flat_span _ _) (.lrefl _) ?_
  refine d_plain (o_build (cs := [.int .i64 b.coal, .int .i64 b.coal, .int .i64 0, .int .i64 100]) rfl ze93 pl93 rfl rfl (o_nil rfl)) ?_
  refine d_plain (o_lit (es := bndsU (bnds0 b)) rfl ty94 ze93 cl93 rfl rfl rfl rfl rfl rfl rfl rfl (o_nil rfl)) ?_
  refine d_plain (o_assign rfl (o_nil rfl)) ?_
  refine d_nil ?_
  refine k_seq (k_region ?_)
  refine o_move rfl ?_
  refine o_call rfl (ret59 hi (bnds0 b) (by show 11 ≤ 4096; omega)) (.lcons _ _ _ _ (.ro .full 4 _) (.lrefl _)) ?_
  refine o_move rfl ?_
  refine o_guard rfl rfl rfl rfl (fun h1 => ?_) (fun h1 => ?_)
  · have hk := ok0_of h1
    refine o_loadN rfl rfl rfl sh28 rfl ?_
    refine o_gD rfl rfl rfl rfl h1 ?_
    refine o_call rfl (ret60 hi b hk.nl.2 hk.nt hk.nk) (.lrefl _) ?_
    refine o_gD rfl rfl rfl rfl h1 ?_
    refine o_call rfl (ret59 hi _ (by have := bndsL_len hk.nl.2 hk.nt hk.nk; omega)) (.lrefl _) ?_
    refine o_pickT rfl rfl h1 ?_
    refine o_assign rfl ?_
    refine o_nil ?_
    refine k_ret ?_
    refine ⟨.inr rfl, _, .cons _ _ _ _ (.tmp 2) .nil, ?_⟩
    rw [show valid b = (bndsL b).all Bnd.ok by unfold valid; rw [h1]; rfl]; exact .refl _
  · refine o_gS rfl rfl rfl rfl h1 ?_
    refine o_gS rfl rfl rfl rfl h1 ?_
    refine o_pickF rfl rfl h1 ?_
    refine o_assign rfl ?_
    refine o_nil ?_
    refine k_ret ?_
    refine ⟨.inr rfl, _, .cons _ _ _ _ (.tmp 2) .nil, ?_⟩
    rw [show valid b = false by unfold valid; rw [h1]; rfl]; exact .refl _
noncomputable def b9 : Code := (Tryz.f9.body).getD .skip
theorem body9 : bodyOf Tryz.prog 9 = some (6, b9, [.tmp 2]) := by kernel_rfl
theorem pure9 : pureFn Tryz.prog 9 = true := by kernel_rfl
set_option maxHeartbeats 4000000 in
theorem ret9 (hi : Off is) (b : Bk) : RetP Tryz.prog is orc 9 [b.u] (.int .i64 (checkR b)) := by
  refine ret_of body9 pure9 (hi 9 (by decide)) rfl rfl (dat_l1 (dat_bk b 5)) (.inl (.int _ _ _)) ?_
  refine k_seq (k_region ?_)
  refine o_box rfl rfl ?_
  refine o_assign rfl ?_
  refine o_nil ?_
  refine k_seq ?_
  refine k_seq (k_region ?_)
  refine o_loadN rfl rfl rfl sh28 rfl ?_
  refine o_call rfl (ret32 hi b) (.lrefl _) ?_
  refine o_not rfl rfl ?_
  refine o_nil ?_
  refine k_cond rfl (fun h1 => ?_) (fun h1 => ?_)
  · refine k_seq (k_region ?_)
    refine o_assign rfl ?_
    refine o_nil ?_
    refine k_ret ?_
    refine ⟨.inr rfl, _, .cons _ _ _ _ (.tmp 2) .nil, ?_⟩
    have e : valid b = false := (Bool.not_eq_true' _).mp h1
    rw [show checkR b = 20 by unfold checkR; rw [e]; rfl]; exact .refl _
  · refine k_skip ?_
    refine k_seq (k_region ?_)
    refine o_assign rfl ?_
    refine o_nil ?_
    refine k_ret ?_
    refine ⟨.inr rfl, _, .cons _ _ _ _ (.tmp 2) .nil, ?_⟩
    have e : valid b = true := (Bool.not_eq_false' _).mp h1
    rw [show checkR b = 0 by unfold checkR; rw [e]; rfl]; exact .refl _
def stk (b : Bk) (n i : Nat) : Int := if i < n then ((b.lots[i]?).map Tri.a).getD 0 else 0
abbrev bkN (b : Bk) (n : Nat) : List U := [.lst .ro 3 (trisU b.lots), .int .i64 b.tlo, .int .i64 b.thi, .int .i64 b.thick, .int .i64 b.crack, .int .i64 b.glo, .int .i64 b.ghi, .lst .ro 2 (twosU b.thins), .int .i64 b.hot, .int .i64 b.least, .int .i64 b.clo, .int .i64 b.chi, .int .i64 b.coal, .lst .ro 3 (trisU b.looks), .int .i64 (stk b n 0), .int .i64 (stk b n 1), .int .i64 (stk b n 2), .int .i64 (stk b n 3), .lst .full 0 []]
abbrev bkF (b : Bk) : U := .agg (bkN b b.lots.length)
theorem dat_bkF (b : Bk) (n : Nat) : Dat (n + 3) (bkF b) := .agg _ _ fun c hc => by
  simp only [List.mem_cons, List.not_mem_nil, or_false] at hc
  rcases hc with rfl | rfl | rfl | rfl | rfl | rfl | rfl | rfl | rfl | rfl | rfl | rfl | rfl | rfl | rfl | rfl | rfl | rfl | rfl <;> first | exact .int _ _ _ | exact dat_tris _ _ (fun h => by cases h) _ | exact dat_twos _ _ (fun h => by cases h) _ | exact .lst _ _ _ _ (fun h => by cases h) (fun c hc => by cases hc)
theorem stk_set (b : Bk) {n : Nat} {q : Tri} (hq : b.lots[n]? = some q) (hn : n < 4) : (bkN b n).set (14 + n) (.int .i64 q.a) = bkN b (n + 1) := by
  have e : n = 0 ∨ n = 1 ∨ n = 2 ∨ n = 3 := by omega
  rcases e with rfl | rfl | rfl | rfl <;> simp [bkN, stk, hq]
noncomputable def b55 : Code := (Tryz.f55.body).getD .skip
theorem body55 : bodyOf Tryz.prog 55 = some (24, b55, [.cell 2 60]) := by kernel_rfl
theorem pure55 : pureFn Tryz.prog 55 = true := by kernel_rfl
set_option maxHeartbeats 4000000 in
theorem ret55 (hi : Off is) (b : Bk) (hb : b.lots.length ≤ 4) : RetP Tryz.prog is orc 55 [b.u] (bkF b) := by
  refine ret_of body55 pure55 (hi 55 (by decide)) rfl rfl (dat_l1 (dat_bk b 5)) (.inl (dat_bkF b 5)) ?_
  refine k_seq (k_region ?_)
  refine o_box rfl rfl ?_
  refine o_alloc rfl ze60 ?_
  refine o_nil ?_
  refine k_seq (k_region ?_)
  refine o_loadN rfl rfl rfl sh28 rfl ?_
  refine o_build rfl ze60 pl60 rfl rfl ?_
  refine o_alloc rfl ze60 ?_
  refine o_storeN rfl rfl sh60 rfl rfl rfl rfl rfl ?_
  refine o_nil ?_
  refine k_seq ?_
  refine k_seq (k_region ?_)
  refine o_faddr rfl rfl fld28_0 ?_
  refine o_load1 rfl rfl rfl sh22 rfl ?_
  refine o_len rfl ty22 rfl rfl ?_
  refine o_move rfl ?_
  refine o_nil ?_
  refine k_block ?_
  refine k_loop (fun k s => ∃ n : Nat, k + n = b.lots.length ∧ s.st[0]? = some (.box b.cs) ∧ (∃ c1 : List U, s.st[1]? = some (.box c1) ∧ c1.length = 19) ∧ s.st[2]? = some (.box (bkN b n)) ∧ Holds s [(1, .box 0 0), (2, .box 1 0), (3, .box 2 0), (9, .int .i64 (trisU b.lots).length), (10, .int .i64 n)]) (fun k s hI => ?_) b.lots.length _ ?_
  · obtain ⟨n, hk, hst, ⟨c1, hst1, hc1⟩, hst2, hs⟩ := hI
    rw [hs.eq]
    refine k_seq (k_region ?_)
    refine o_lss rfl rfl rfl ?_
    refine o_nil ?_
    refine k_seq ?_
    refine k_cond rfl (fun h1 => ?_) (fun h1 => ?_)
    · have h3' : n < b.lots.length := by
        have := of_decide_eq_true h1
        simp at this; omega
      obtain ⟨q, hq⟩ : ∃ q, b.lots[n]? = some q := ⟨b.lots[n], List.getElem?_eq_getElem h3'⟩
      refine k_skip ?_
      refine k_seq ?_
      refine k_block ?_
      refine k_seq (k_region ?_)
      refine o_move rfl ?_
      refine o_assign rfl ?_
      refine o_nil ?_
      refine k_region ?_
      refine o_move rfl ?_
      refine o_faddr rfl rfl fld28_0 ?_
      refine o_load1 rfl rfl hst sh22 rfl ?_
      refine o_move rfl ?_
      refine o_idx (u := q.u) rfl ty22 rfl rfl (Int.natCast_nonneg n) (by simp [hq]) cl54 ?_
      refine o_faddrR rfl rfl fld54_0 ?_
      refine o_loadR1 rfl rfl sh3 rfl ?_
      refine o_faddr rfl rfl fld60_1 ?_
      refine o_idxA rfl ty57 rfl rfl (by omega) (by omega) cl3 ?_
      refine o_store1 rfl hst2 sh3 (by show Nat.blt (14 + (n : Int).toNat * 1) 19 = true; rw [Int.toNat_natCast, Nat.mul_one, Nat.blt_eq]; omega) rfl ?_
      refine o_nil ?_
      refine k_region ?_
      refine o_add rfl rfl rfl (by unfold I64; omega) ?_
      refine o_move rfl ?_
      refine o_nil ?_
      refine ⟨k - 1, by omega, n + 1, by omega, ?_, ⟨c1, ?_, hc1⟩, ?_, .cons rfl (.cons rfl (.cons rfl (.cons rfl (.cons rfl (.nil rfl)))))⟩
      · show (s.st.set 2 _)[0]? = _; rw [List.getElem?_set_ne (by decide)]; exact hst
      · show (s.st.set 2 _)[1]? = _; rw [List.getElem?_set_ne (by decide)]; exact hst1
      · show (s.st.set 2 (SB.box ((bkN b n).set (14 + (n : Int).toNat * 1) (.int .i64 q.a))))[2]? = _
        rw [List.getElem?_set_self (List.getElem?_eq_some_iff.1 hst2).1, Int.toNat_natCast, Nat.mul_one, stk_set b hq (by omega)]
    · refine k_exit ?_
      refine k_seq (k_region ?_)
      refine o_loadN rfl rfl hst2 sh60 rfl ?_
      refine o_storeN rfl hst1 sh60 rfl rfl rfl (by rw [hc1]; rfl) rfl ?_
      refine o_nil ?_
      refine k_ret ?_
      refine ⟨.inr rfl, _, .cons _ _ _ _ (.cellN 2 60 _ _ _ ((c1.take 0 ++ bkN b n) ++ c1.drop 19) rfl (by show (s.st.set 1 _)[1]? = _; rw [List.getElem?_set_self (List.getElem?_eq_some_iff.1 hst1).1]; rfl) sh60 (by simp [hc1])) .nil, ?_⟩
      have h3' : n = b.lots.length := by
        have := of_decide_eq_false h1
        simp at this; omega
      subst h3'
      exact .refl _
  · exact ⟨0, rfl, rfl, ⟨_, rfl, rfl⟩, rfl, .cons rfl (.cons rfl (.cons rfl (.cons rfl (.cons rfl (.nil rfl)))))⟩
noncomputable def b29 : Code := (Tryz.f29.body).getD .skip
theorem body29 : bodyOf Tryz.prog 29 = some (18, b29, [.cell 4 60, .tmp 5]) := by kernel_rfl
theorem pure29 : pureFn Tryz.prog 29 = true := by kernel_rfl
set_option maxHeartbeats 4000000 in
theorem ret29 (hi : Off is) {b : Bk} (hk : Ok b) : RetP Tryz.prog is orc 29 [b.u, .bool true] (.tup [bkF b, .int .i64 0]) := by
  refine ret_of body29 pure29 (hi 29 (by decide)) rfl rfl (dat_l2 (dat_bk b 5) (.bool _ _)) (.inr ⟨_, rfl, dat_l2 (dat_bkF b 4) (.int _ _ _)⟩) ?_
  have hv : checkR b = 0 := by unfold checkR; rw [ok_valid hk]; rfl
  refine k_seq (k_region ?_)
  refine o_box rfl rfl ?_
  refine o_alloc rfl ze60 ?_
  refine o_assign rfl ?_
  refine o_nil ?_
  refine k_seq ?_
  refine k_seq (k_region ?_)
  refine o_loadN rfl rfl rfl sh28 rfl ?_
  refine o_call rfl (ret9 hi b) (.lrefl _) ?_
  refine o_assign rfl ?_
  refine o_nil ?_
  refine k_seq (k_region ?_)
  refine o_move rfl ?_
  refine o_neq rfl rfl rfl ?_
  refine o_nil ?_
  refine k_cF rfl (decide_eq_false (fun h => h hv)) ?_
  refine k_skip ?_
  refine k_seq ?_
  refine k_seq (k_region ?_)
  refine o_move rfl ?_
  refine o_not rfl rfl ?_
  refine o_nil ?_
  refine k_cF rfl rfl ?_
  refine k_skip ?_
  refine k_seq (k_region ?_)
  refine o_loadN rfl rfl rfl sh28 rfl ?_
  refine o_call rfl (ret55 hi b hk.nl.2) (.lrefl _) ?_
  refine o_storeN rfl rfl sh60 rfl rfl rfl rfl rfl ?_
  refine o_assign rfl ?_
  refine o_nil ?_
  refine k_ret ?_
  refine ⟨.inr rfl, _, .cons _ _ _ _ (.cellN 4 60 _ _ _ _ rfl rfl sh60 rfl) (.cons _ _ _ _ (.tmp 5) .nil), ?_⟩
  exact .refl _
theorem flat_int (n : Int) : FlatU (.int .i64 n) := .int _ _
noncomputable def b20 : Code := (Tryz.f20.body).getD .skip
theorem body20 : bodyOf Tryz.prog 20 = some (142, b20, [.tmp 2]) := by kernel_rfl
theorem pure20 : pureFn Tryz.prog 20 = true := by kernel_rfl
set_option maxHeartbeats 4000000 in
theorem ret20 (hi : Off is) {b : Bk} (hk : Ok b) : RetP Tryz.prog is orc 20 [b.u] (.bool true) := by
  refine ret_of body20 pure20 (hi 20 (by decide)) rfl rfl (dat_l1 (dat_bk b 5)) (.inl (.bool _ _)) ?_
  have w1 := hk.nl; have w2 := hk.nt; have w3 := hk.nk
  have hv : checkR b = 0 := by unfold checkR; rw [ok_valid hk]; rfl
  have g11 : decide (checkR b = 0) = true := decide_eq_true hv
  have g17 : (decide (1 ≤ ((trisU b.lots).length : Int)) && decide (((trisU b.lots).length : Int) ≤ 4)) = true := by have := hk.nl; simp; omega
  have g22 : (decide (0 ≤ b.tlo) && (decide (b.tlo ≤ b.thi) && decide (b.thi ≤ 1000))) = true := by have := hk.tin; simp; omega
  have g27 : (decide (1 ≤ b.thick) && decide (b.thick ≤ 3000)) = true := by have := hk.thick; simp; omega
  have g32 : (decide (0 ≤ b.crack) && decide (b.crack ≤ 3000)) = true := by have := hk.crack; simp; omega
  have g37 : (decide (0 ≤ b.glo) && (decide (b.glo ≤ b.ghi) && decide (b.ghi ≤ 3000))) = true := by have := hk.goal; simp; omega
  have g43 : decide (((twosU b.thins).length : Int) = 3) = true := by have := hk.nt; simp; omega
  have g48 : (decide (0 ≤ b.hot) && decide (b.hot ≤ 1500)) = true := by have := hk.hot; simp; omega
  have g55 : (decide (0 ≤ b.least) && decide (b.least ≤ b.hot)) = true := by have := hk.least; simp; omega
  have g60 : (decide (1 ≤ b.clo) && (decide (b.clo ≤ b.chi) && decide (b.chi ≤ 300))) = true := by have := hk.cool; simp; omega
  have g65 : (decide (0 ≤ b.coal) && decide (b.coal ≤ 100)) = true := by have := hk.coal; simp; omega
  have g69 : decide (((trisU b.looks).length : Int) ≤ 8) = true := by have := hk.nk; simp; omega
  refine k_seq (k_region ?_)
  refine o_box rfl rfl ?_
  refine o_assign rfl ?_
  refine o_nil ?_
  refine k_seq (k_region ?_)
  refine o_loadN rfl rfl rfl sh28 rfl ?_
  refine o_call rfl (ret9 hi b) (.lrefl _) ?_
  refine o_eql rfl rfl rfl ?_
  refine o_move rfl ?_
  refine o_gD rfl rfl rfl rfl g11 ?_
  refine o_faddr rfl rfl fld28_0 ?_
  refine o_gD rfl rfl rfl rfl g11 ?_
  refine o_load1 rfl rfl rfl sh22 rfl ?_
  refine o_gD rfl rfl rfl rfl g11 ?_
  refine o_len rfl ty22 rfl rfl ?_
  refine o_gD rfl rfl rfl rfl g11 ?_
  refine o_call rfl (ret25 hi _ _ _) (.lrefl _) ?_
  refine o_pickT rfl rfl g11 ?_
  refine o_move rfl ?_
  refine o_gD rfl rfl rfl rfl g17 ?_
  refine o_faddr rfl rfl fld28_1 ?_
  refine o_gD rfl rfl rfl rfl g17 ?_
  refine o_loadN rfl rfl rfl sh24 rfl ?_
  refine o_gD rfl rfl rfl rfl g17 ?_
  refine o_call rfl (ret33 hi _ _ _ _) (.lrefl _) ?_
  refine o_pickT rfl rfl g17 ?_
  refine o_move rfl ?_
  refine o_gD rfl rfl rfl rfl g22 ?_
  refine o_faddr rfl rfl fld28_2 ?_
  refine o_gD rfl rfl rfl rfl g22 ?_
  refine o_load1 rfl rfl rfl sh3 rfl ?_
  refine o_gD rfl rfl rfl rfl g22 ?_
  refine o_call rfl (ret25 hi _ _ _) (.lrefl _) ?_
  refine o_pickT rfl rfl g22 ?_
  refine o_move rfl ?_
  refine o_gD rfl rfl rfl rfl g27 ?_
  refine o_faddr rfl rfl fld28_3 ?_
  refine o_gD rfl rfl rfl rfl g27 ?_
  refine o_load1 rfl rfl rfl sh3 rfl ?_
  refine o_gD rfl rfl rfl rfl g27 ?_
  refine o_call rfl (ret25 hi _ _ _) (.lrefl _) ?_
  refine o_pickT rfl rfl g27 ?_
  refine o_move rfl ?_
  refine o_gD rfl rfl rfl rfl g32 ?_
  refine o_faddr rfl rfl fld28_4 ?_
  refine o_gD rfl rfl rfl rfl g32 ?_
  refine o_loadN rfl rfl rfl sh24 rfl ?_
  refine o_gD rfl rfl rfl rfl g32 ?_
  refine o_call rfl (ret33 hi _ _ _ _) (.lrefl _) ?_
  refine o_pickT rfl rfl g32 ?_
  refine o_move rfl ?_
  refine o_gD rfl rfl rfl rfl g37 ?_
  refine o_faddr rfl rfl fld28_5 ?_
  refine o_gD rfl rfl rfl rfl g37 ?_
  refine o_load1 rfl rfl rfl sh25 rfl ?_
  refine o_gD rfl rfl rfl rfl g37 ?_
  refine o_len rfl ty25 rfl rfl ?_
  refine o_gD rfl rfl rfl rfl g37 ?_
  refine o_eql rfl rfl rfl ?_
  refine o_pickT rfl rfl g37 ?_
  refine o_move rfl ?_
  refine o_gD rfl rfl rfl rfl g43 ?_
  refine o_faddr rfl rfl fld28_6 ?_
  refine o_gD rfl rfl rfl rfl g43 ?_
  refine o_load1 rfl rfl rfl sh3 rfl ?_
  refine o_gD rfl rfl rfl rfl g43 ?_
  refine o_call rfl (ret25 hi _ _ _) (.lrefl _) ?_
  refine o_pickT rfl rfl g43 ?_
  refine o_move rfl ?_
  refine o_gD rfl rfl rfl rfl g48 ?_
  refine o_faddr rfl rfl fld28_7 ?_
  refine o_gD rfl rfl rfl rfl g48 ?_
  refine o_load1 rfl rfl rfl sh3 rfl ?_
  refine o_gD rfl rfl rfl rfl g48 ?_
  refine o_faddr rfl rfl fld28_6 ?_
  refine o_gD rfl rfl rfl rfl g48 ?_
  refine o_load1 rfl rfl rfl sh3 rfl ?_
  refine o_gD rfl rfl rfl rfl g48 ?_
  refine o_call rfl (ret25 hi _ _ _) (.lrefl _) ?_
  refine o_pickT rfl rfl g48 ?_
  refine o_move rfl ?_
  refine o_gD rfl rfl rfl rfl g55 ?_
  refine o_faddr rfl rfl fld28_8 ?_
  refine o_gD rfl rfl rfl rfl g55 ?_
  refine o_loadN rfl rfl rfl sh24 rfl ?_
  refine o_gD rfl rfl rfl rfl g55 ?_
  refine o_call rfl (ret33 hi _ _ _ _) (.lrefl _) ?_
  refine o_pickT rfl rfl g55 ?_
  refine o_move rfl ?_
  refine o_gD rfl rfl rfl rfl g60 ?_
  refine o_faddr rfl rfl fld28_9 ?_
  refine o_gD rfl rfl rfl rfl g60 ?_
  refine o_load1 rfl rfl rfl sh3 rfl ?_
  refine o_gD rfl rfl rfl rfl g60 ?_
  refine o_call rfl (ret25 hi _ _ _) (.lrefl _) ?_
  refine o_pickT rfl rfl g60 ?_
  refine o_move rfl ?_
  refine o_gD rfl rfl rfl rfl g65 ?_
  refine o_faddr rfl rfl fld28_10 ?_
  refine o_gD rfl rfl rfl rfl g65 ?_
  refine o_load1 rfl rfl rfl sh26 rfl ?_
  refine o_gD rfl rfl rfl rfl g65 ?_
  refine o_len rfl ty26 rfl rfl ?_
  refine o_gD rfl rfl rfl rfl g65 ?_
  refine o_leq rfl rfl rfl ?_
  refine o_pickT rfl rfl g65 ?_
  refine o_assign rfl ?_
  refine o_nil ?_
  refine k_seq ?_
  refine k_seq (k_region ?_)
  refine o_assign rfl ?_
  refine o_nil ?_
  refine k_block ?_
  refine k_loop (fun k s => ∃ n : Nat, k + n = b.lots.length ∧ s.st[0]? = some (.box b.cs) ∧ Holds s [(1, .box 0 0), (3, .bool true), (4, .int .i64 n)]) (fun k s hI => ?_) b.lots.length _ ?_
  · obtain ⟨n, hk0, hst, hs⟩ := hI
    rw [hs.eq]
    refine k_seq ?_
    refine k_seq (k_region ?_)
    refine o_move rfl ?_
    refine o_move rfl ?_
    refine o_gD rfl rfl rfl rfl rfl ?_
    refine o_move rfl ?_
    refine o_gD rfl rfl rfl rfl rfl ?_
    refine o_faddr rfl rfl fld28_0 ?_
    refine o_gD rfl rfl rfl rfl rfl ?_
    refine o_load1 rfl rfl hst sh22 rfl ?_
    refine o_gD rfl rfl rfl rfl rfl ?_
    refine o_len rfl ty22 rfl rfl ?_
    refine o_gD rfl rfl rfl rfl rfl ?_
    refine o_lss rfl rfl rfl ?_
    refine o_pickT rfl rfl rfl ?_
    refine o_nil ?_
    refine k_cond rfl (fun h1 => ?_) (fun h1 => ?_)
    · have h3' : n < b.lots.length := by
        have := of_decide_eq_true h1
        simp at this; omega
      obtain ⟨q, hq⟩ : ∃ q, b.lots[n]? = some q := ⟨b.lots[n], List.getElem?_eq_getElem h3'⟩
      have hm := hk.lots q (List.mem_of_getElem? hq)
      have g88 : (decide (0 ≤ q.a) && decide (q.a ≤ 6)) = true := by simp; omega
      have g95 : (decide (0 ≤ q.b) && (decide (q.b ≤ q.c) && decide (q.c ≤ 1000))) = true := by simp; omega
      refine k_skip ?_
      refine k_seq ?_
      refine k_block ?_
      refine k_region ?_
      refine o_faddr rfl rfl fld28_0 ?_
      refine o_load1 rfl rfl hst sh22 rfl ?_
      refine o_move rfl ?_
      refine o_idx (u := q.u) rfl ty22 rfl rfl (Int.natCast_nonneg n) (by simp [hq]) cl54 ?_
      refine o_faddrR rfl rfl fld54_0 ?_
      refine o_loadR1 rfl rfl sh3 rfl ?_
      refine o_call rfl (ret25 hi _ _ _) (.lrefl _) ?_
      refine o_move rfl ?_
      refine o_gD rfl rfl rfl rfl g88 ?_
      refine o_faddr rfl rfl fld28_0 ?_
      refine o_gD rfl rfl rfl rfl g88 ?_
      refine o_load1 rfl rfl hst sh22 rfl ?_
      refine o_gD rfl rfl rfl rfl g88 ?_
      refine o_move rfl ?_
      refine o_gD rfl rfl rfl rfl g88 ?_
      refine o_idx (u := q.u) rfl ty22 rfl rfl (Int.natCast_nonneg n) (by simp [hq]) cl54 ?_
      refine o_gD rfl rfl rfl rfl g88 ?_
      refine o_faddrR rfl rfl fld54_1 ?_
      refine o_gD rfl rfl rfl rfl g88 ?_
      refine o_loadRN rfl rfl sh24 rfl ?_
      refine o_gD rfl rfl rfl rfl g88 ?_
      refine o_call rfl (ret33 hi _ _ _ _) (.lrefl _) ?_
      refine o_pickT rfl rfl g88 ?_
      refine o_assign rfl ?_
      refine o_nil ?_
      refine k_region ?_
      refine o_move rfl ?_
      refine o_add rfl rfl rfl (by unfold I64; omega) ?_
      refine o_assign rfl ?_
      refine o_nil ?_
      exact ⟨k - 1, by omega, n + 1, by omega, (by first | exact hst | exact at_old2 hst), .cons rfl (.cons (congrArg U.bool g95) (.cons rfl (.nil rfl)))⟩
    · refine k_exit ?_
      refine k_seq ?_
      refine k_seq (k_region ?_)
      refine o_assign rfl ?_
      refine o_nil ?_
      refine k_block ?_
      refine k_loop (fun k s => ∃ n : Nat, k + n = b.thins.length ∧ s.st[0]? = some (.box b.cs) ∧ Holds s [(1, .box 0 0), (3, .bool true), (5, .int .i64 n)]) (fun k s hI => ?_) b.thins.length _ ?_
      · obtain ⟨n, hk0, hst, hs⟩ := hI
        rw [hs.eq]
        refine k_seq ?_
        refine k_seq (k_region ?_)
        refine o_move rfl ?_
        refine o_move rfl ?_
        refine o_gD rfl rfl rfl rfl rfl ?_
        refine o_move rfl ?_
        refine o_gD rfl rfl rfl rfl rfl ?_
        refine o_faddr rfl rfl fld28_5 ?_
        refine o_gD rfl rfl rfl rfl rfl ?_
        refine o_load1 rfl rfl hst sh25 rfl ?_
        refine o_gD rfl rfl rfl rfl rfl ?_
        refine o_len rfl ty25 rfl rfl ?_
        refine o_gD rfl rfl rfl rfl rfl ?_
        refine o_lss rfl rfl rfl ?_
        refine o_pickT rfl rfl rfl ?_
        refine o_nil ?_
        refine k_cond rfl (fun h2 => ?_) (fun h2 => ?_)
        · have h3' : n < b.thins.length := by
            have := of_decide_eq_true h2
            simp at this; omega
          obtain ⟨q, hq⟩ : ∃ q, b.thins[n]? = some q := ⟨b.thins[n], List.getElem?_eq_getElem h3'⟩
          have hm := hk.thins q (List.mem_of_getElem? hq)
          have g112 : (decide (1 ≤ q.a) && (decide (q.a ≤ q.b) && decide (q.b ≤ 20))) = true := by simp; omega
          refine k_skip ?_
          refine k_seq ?_
          refine k_block ?_
          refine k_region ?_
          refine o_faddr rfl rfl fld28_5 ?_
          refine o_load1 rfl rfl hst sh25 rfl ?_
          refine o_move rfl ?_
          refine o_idx (u := q.u) rfl ty25 rfl rfl (Int.natCast_nonneg n) (by simp [hq]) cl24 ?_
          refine o_loadRN rfl rfl sh24 rfl ?_
          refine o_call rfl (ret33 hi _ _ _ _) (.lrefl _) ?_
          refine o_assign rfl ?_
          refine o_nil ?_
          refine k_region ?_
          refine o_move rfl ?_
          refine o_add rfl rfl rfl (by unfold I64; omega) ?_
          refine o_assign rfl ?_
          refine o_nil ?_
          exact ⟨k - 1, by omega, n + 1, by omega, (by first | exact hst | exact at_old2 hst), .cons rfl (.cons (congrArg U.bool g112) (.cons rfl (.nil rfl)))⟩
        · refine k_exit ?_
          refine k_seq ?_
          refine k_seq (k_region ?_)
          refine o_assign rfl ?_
          refine o_nil ?_
          refine k_block ?_
          refine k_loop (fun k s => ∃ n : Nat, k + n = b.looks.length ∧ s.st[0]? = some (.box b.cs) ∧ Holds s [(1, .box 0 0), (3, .bool true), (6, .int .i64 n)]) (fun k s hI => ?_) b.looks.length _ ?_
          · obtain ⟨n, hk0, hst, hs⟩ := hI
            rw [hs.eq]
            refine k_seq ?_
            refine k_seq (k_region ?_)
            refine o_move rfl ?_
            refine o_move rfl ?_
            refine o_gD rfl rfl rfl rfl rfl ?_
            refine o_move rfl ?_
            refine o_gD rfl rfl rfl rfl rfl ?_
            refine o_faddr rfl rfl fld28_10 ?_
            refine o_gD rfl rfl rfl rfl rfl ?_
            refine o_load1 rfl rfl hst sh26 rfl ?_
            refine o_gD rfl rfl rfl rfl rfl ?_
            refine o_len rfl ty26 rfl rfl ?_
            refine o_gD rfl rfl rfl rfl rfl ?_
            refine o_lss rfl rfl rfl ?_
            refine o_pickT rfl rfl rfl ?_
            refine o_nil ?_
            refine k_cond rfl (fun h3 => ?_) (fun h3 => ?_)
            · have h3' : n < b.looks.length := by
                have := of_decide_eq_true h3
                simp at this; omega
              obtain ⟨q, hq⟩ : ∃ q, b.looks[n]? = some q := ⟨b.looks[n], List.getElem?_eq_getElem h3'⟩
              have hm := hk.looks q (List.mem_of_getElem? hq)
              have g131 : (decide (0 ≤ q.a) && decide (q.a ≤ 300)) = true := by simp; omega
              have g136 : (decide (0 ≤ q.b) && decide (q.b ≤ 3000)) = true := by simp; omega
              have g140 : (decide (0 ≤ q.c) && decide (q.c ≤ 50)) = true := by simp; omega
              refine k_skip ?_
              refine k_seq ?_
              refine k_block ?_
              refine k_seq (k_region ?_)
              refine o_faddr rfl rfl fld28_10 ?_
              refine o_load1 rfl rfl hst sh26 rfl ?_
              refine o_move rfl ?_
              refine o_idx (u := q.u) rfl ty26 rfl rfl (Int.natCast_nonneg n) (by simp [hq]) cl66 ?_
              refine o_loadRN rfl rfl sh66 rfl ?_
              refine o_alloc rfl ze66 ?_
              refine o_storeN rfl (at_new _ _) sh66 rfl rfl rfl rfl rfl ?_
              refine o_nil ?_
              refine k_region ?_
              refine o_faddr rfl rfl fld66_0 ?_
              refine o_load1 rfl rfl (at_set _ _ _) sh3 rfl ?_
              refine o_call rfl (ret25 hi _ _ _) (.lrefl _) ?_
              refine o_move rfl ?_
              refine o_gD rfl rfl rfl rfl g131 ?_
              refine o_faddr rfl rfl fld66_1 ?_
              refine o_gD rfl rfl rfl rfl g131 ?_
              refine o_load1 rfl rfl (at_set _ _ _) sh3 rfl ?_
              refine o_gD rfl rfl rfl rfl g131 ?_
              refine o_call rfl (ret25 hi _ _ _) (.lrefl _) ?_
              refine o_pickT rfl rfl g131 ?_
              refine o_move rfl ?_
              refine o_gD rfl rfl rfl rfl g136 ?_
              refine o_faddr rfl rfl fld66_2 ?_
              refine o_gD rfl rfl rfl rfl g136 ?_
              refine o_load1 rfl rfl (at_set _ _ _) sh3 rfl ?_
              refine o_gD rfl rfl rfl rfl g136 ?_
              refine o_call rfl (ret25 hi _ _ _) (.lrefl _) ?_
              refine o_pickT rfl rfl g136 ?_
              refine o_assign rfl ?_
              refine o_nil ?_
              refine k_region ?_
              refine o_move rfl ?_
              refine o_add rfl rfl rfl (by unfold I64; omega) ?_
              refine o_assign rfl ?_
              refine o_nil ?_
              exact ⟨k - 1, by omega, n + 1, by omega, (by first | exact hst | exact at_old2 hst), .cons rfl (.cons (congrArg U.bool g140) (.cons rfl (.nil rfl)))⟩
            · refine k_exit ?_
              refine k_seq (k_region ?_)
              refine o_move rfl ?_
              refine o_assign rfl ?_
              refine o_nil ?_
              refine k_ret ?_
              refine ⟨.inr rfl, _, .cons _ _ _ _ (.tmp 2) .nil, ?_⟩
              exact .refl _
          · exact ⟨0, rfl, hst, .cons rfl (.cons rfl (.cons rfl (.nil rfl)))⟩
      · exact ⟨0, rfl, hst, .cons rfl (.cons rfl (.cons rfl (.nil rfl)))⟩
  · exact ⟨0, rfl, rfl, .cons rfl (.cons (congrArg U.bool g69) (.cons rfl (.nil rfl)))⟩
set_option maxHeartbeats 4000000 in
theorem ret20n (hi : Off is) {b : Bk} (hv : checkR b ≠ 0) : RetP Tryz.prog is orc 20 [b.u] (.bool false) := by
  refine ret_of body20 pure20 (hi 20 (by decide)) rfl rfl (dat_l1 (dat_bk b 5)) (.inl (.bool _ _)) ?_
  have g11 : decide (checkR b = 0) = false := decide_eq_false hv
  refine k_seq (k_region ?_)
  refine o_box rfl rfl ?_
  refine o_assign rfl ?_
  refine o_nil ?_
  refine k_seq (k_region ?_)
  refine o_loadN rfl rfl rfl sh28 rfl ?_
  refine o_call rfl (ret9 hi b) (.lrefl _) ?_
  refine o_eql rfl rfl rfl ?_
  refine o_move rfl ?_
  refine o_gS rfl rfl rfl rfl g11 ?_
  refine o_gS rfl rfl rfl rfl g11 ?_
  refine o_gS rfl rfl rfl rfl g11 ?_
  refine o_gS rfl rfl rfl rfl g11 ?_
  refine o_pickF rfl rfl g11 ?_
  refine o_move rfl ?_
  refine o_gS rfl rfl rfl rfl rfl ?_
  refine o_gS rfl rfl rfl rfl rfl ?_
  refine o_gS rfl rfl rfl rfl rfl ?_
  refine o_pickF rfl rfl rfl ?_
  refine o_move rfl ?_
  refine o_gS rfl rfl rfl rfl rfl ?_
  refine o_gS rfl rfl rfl rfl rfl ?_
  refine o_gS rfl rfl rfl rfl rfl ?_
  refine o_pickF rfl rfl rfl ?_
  refine o_move rfl ?_
  refine o_gS rfl rfl rfl rfl rfl ?_
  refine o_gS rfl rfl rfl rfl rfl ?_
  refine o_gS rfl rfl rfl rfl rfl ?_
  refine o_pickF rfl rfl rfl ?_
  refine o_move rfl ?_
  refine o_gS rfl rfl rfl rfl rfl ?_
  refine o_gS rfl rfl rfl rfl rfl ?_
  refine o_gS rfl rfl rfl rfl rfl ?_
  refine o_pickF rfl rfl rfl ?_
  refine o_move rfl ?_
  refine o_gS rfl rfl rfl rfl rfl ?_
  refine o_gS rfl rfl rfl rfl rfl ?_
  refine o_gS rfl rfl rfl rfl rfl ?_
  refine o_gS rfl rfl rfl rfl rfl ?_
  refine o_pickF rfl rfl rfl ?_
  refine o_move rfl ?_
  refine o_gS rfl rfl rfl rfl rfl ?_
  refine o_gS rfl rfl rfl rfl rfl ?_
  refine o_gS rfl rfl rfl rfl rfl ?_
  refine o_pickF rfl rfl rfl ?_
  refine o_move rfl ?_
  refine o_gS rfl rfl rfl rfl rfl ?_
  refine o_gS rfl rfl rfl rfl rfl ?_
  refine o_gS rfl rfl rfl rfl rfl ?_
  refine o_gS rfl rfl rfl rfl rfl ?_
  refine o_gS rfl rfl rfl rfl rfl ?_
  refine o_pickF rfl rfl rfl ?_
  refine o_move rfl ?_
  refine o_gS rfl rfl rfl rfl rfl ?_
  refine o_gS rfl rfl rfl rfl rfl ?_
  refine o_gS rfl rfl rfl rfl rfl ?_
  refine o_pickF rfl rfl rfl ?_
  refine o_move rfl ?_
  refine o_gS rfl rfl rfl rfl rfl ?_
  refine o_gS rfl rfl rfl rfl rfl ?_
  refine o_gS rfl rfl rfl rfl rfl ?_
  refine o_pickF rfl rfl rfl ?_
  refine o_move rfl ?_
  refine o_gS rfl rfl rfl rfl rfl ?_
  refine o_gS rfl rfl rfl rfl rfl ?_
  refine o_gS rfl rfl rfl rfl rfl ?_
  refine o_gS rfl rfl rfl rfl rfl ?_
  refine o_pickF rfl rfl rfl ?_
  refine o_assign rfl ?_
  refine o_nil ?_
  refine k_seq ?_
  refine k_seq (k_region ?_)
  refine o_assign rfl ?_
  refine o_nil ?_
  refine k_block ?_
  refine k_loop (fun k s => s.st[0]? = some (.box b.cs) ∧ Holds s [(1, .box 0 0), (3, .bool false), (4, .int .i64 0)]) (fun k s hI => ?_) 0 _ ?_
  · obtain ⟨hst, hs⟩ := hI
    rw [hs.eq]
    refine k_seq ?_
    refine k_seq (k_region ?_)
    refine o_move rfl ?_
    refine o_move rfl ?_
    refine o_gS rfl rfl rfl rfl rfl ?_
    refine o_gS rfl rfl rfl rfl rfl ?_
    refine o_gS rfl rfl rfl rfl rfl ?_
    refine o_gS rfl rfl rfl rfl rfl ?_
    refine o_gS rfl rfl rfl rfl rfl ?_
    refine o_pickF rfl rfl rfl ?_
    refine o_nil ?_
    refine k_cond rfl (fun h => by cases h) (fun _ => ?_)
    refine k_exit ?_
    refine k_seq ?_
    refine k_seq (k_region ?_)
    refine o_assign rfl ?_
    refine o_nil ?_
    refine k_block ?_
    refine k_loop (fun k s => s.st[0]? = some (.box b.cs) ∧ Holds s [(1, .box 0 0), (3, .bool false), (5, .int .i64 0)]) (fun k s hI => ?_) 0 _ ?_
    · obtain ⟨hst, hs⟩ := hI
      rw [hs.eq]
      refine k_seq ?_
      refine k_seq (k_region ?_)
      refine o_move rfl ?_
      refine o_move rfl ?_
      refine o_gS rfl rfl rfl rfl rfl ?_
      refine o_gS rfl rfl rfl rfl rfl ?_
      refine o_gS rfl rfl rfl rfl rfl ?_
      refine o_gS rfl rfl rfl rfl rfl ?_
      refine o_gS rfl rfl rfl rfl rfl ?_
      refine o_pickF rfl rfl rfl ?_
      refine o_nil ?_
      refine k_cond rfl (fun h => by cases h) (fun _ => ?_)
      refine k_exit ?_
      refine k_seq ?_
      refine k_seq (k_region ?_)
      refine o_assign rfl ?_
      refine o_nil ?_
      refine k_block ?_
      refine k_loop (fun k s => s.st[0]? = some (.box b.cs) ∧ Holds s [(1, .box 0 0), (3, .bool false), (6, .int .i64 0)]) (fun k s hI => ?_) 0 _ ?_
      · obtain ⟨hst, hs⟩ := hI
        rw [hs.eq]
        refine k_seq ?_
        refine k_seq (k_region ?_)
        refine o_move rfl ?_
        refine o_move rfl ?_
        refine o_gS rfl rfl rfl rfl rfl ?_
        refine o_gS rfl rfl rfl rfl rfl ?_
        refine o_gS rfl rfl rfl rfl rfl ?_
        refine o_gS rfl rfl rfl rfl rfl ?_
        refine o_gS rfl rfl rfl rfl rfl ?_
        refine o_pickF rfl rfl rfl ?_
        refine o_nil ?_
        refine k_cond rfl (fun h => by cases h) (fun _ => ?_)
        refine k_exit ?_
        refine k_seq (k_region ?_)
        refine o_move rfl ?_
        refine o_assign rfl ?_
        refine o_nil ?_
        refine k_ret ?_
        refine ⟨.inr rfl, _, .cons _ _ _ _ (.tmp 2) .nil, ?_⟩
        exact .refl _
      · exact ⟨hst, .cons rfl (.cons rfl (.cons rfl (.nil rfl)))⟩
    · exact ⟨hst, .cons rfl (.cons rfl (.cons rfl (.nil rfl)))⟩
  · exact ⟨rfl, .cons rfl (.cons rfl (.cons rfl (.nil rfl)))⟩
theorem und_struct {P : Program} {t : TypeId} (n : Nat) (h : (match P.underlying t with | some (.struct fs) => Nat.beq fs.size n | _ => false) = true) : ∃ fs, P.underlying t = some (.struct fs) := by
  cases hu : P.underlying t with
  | none => rw [hu] at h; cases h
  | some ty => rw [hu] at h; cases ty <;> first | exact ⟨_, rfl⟩ | cases h
theorem u3 : Tryz.prog.underlying 3 = some (.int .i64) := by kernel_rfl
theorem u22 : Tryz.prog.underlying 22 = some (.slice 54) := by kernel_rfl
theorem u25 : Tryz.prog.underlying 25 = some (.slice 24) := by kernel_rfl
theorem u26 : Tryz.prog.underlying 26 = some (.slice 66) := by kernel_rfl
def fts (P : Program) (t : TypeId) : List TypeId := match P.underlying t with | some (.struct fs) => fs.toList.map (·.type) | _ => []
theorem f28 : fts Tryz.prog 28 = [22, 24, 3, 3, 24, 25, 3, 3, 24, 3, 26] := by kernel_rfl
theorem f24 : fts Tryz.prog 24 = [3, 3] := by kernel_rfl
theorem f39 : fts Tryz.prog 54 = [3, 24] := by kernel_rfl
theorem f49 : fts Tryz.prog 66 = [3, 3, 3] := by kernel_rfl
theorem cl54' : Program.cellsOf Tryz.prog 54 = 3 := by kernel_rfl
theorem cl66' : Program.cellsOf Tryz.prog 66 = 3 := by kernel_rfl
theorem cl24' : Program.cellsOf Tryz.prog 24 = 2 := by kernel_rfl
theorem shp_int {cs : List U} (h : Shp Tryz.prog 3 cs) : ∃ n : Int, cs = [.int .i64 n] := by
  cases h with
  | int _ k n hu _ => rw [u3] at hu; cases hu; exact ⟨n, rfl⟩
  | bool _ _ hu => rw [u3] at hu; cases hu
  | str _ _ hu => rw [u3] at hu; cases hu
  | slice _ _ _ hu => rw [u3] at hu; cases hu
  | struct _ _ _ hu => rw [u3] at hu; cases hu
  | array _ _ _ _ hu => rw [u3] at hu; cases hu
theorem shp_fields {P : Program} {t : TypeId} {cs : List U} (h : Shp P t cs) (hne : fts P t ≠ []) : ∃ fs : List Field, fs.map (·.type) = fts P t ∧ ShpF P fs cs := by
  have no : ∀ {ty}, P.underlying t = some ty → (∀ fs, ty ≠ .struct fs) → False := fun hu hn => hne (by unfold fts; rw [hu]; split <;> simp_all)
  cases h with
  | struct _ fs _ hu hf => exact ⟨fs.toList, by unfold fts; rw [hu], hf⟩
  | int _ k n hu _ => exact (no hu (by intro fs h; cases h)).elim
  | bool _ _ hu => exact (no hu (by intro fs h; cases h)).elim
  | str _ _ hu => exact (no hu (by intro fs h; cases h)).elim
  | slice _ _ _ hu => exact (no hu (by intro fs h; cases h)).elim
  | array _ _ _ _ hu => exact (no hu (by intro fs h; cases h)).elim
theorem shpF_cons {P : Program} {fs : List Field} {t : TypeId} {ts : List TypeId} {cs : List U} (h : ShpF P fs cs) (e : fs.map (·.type) = t :: ts) : ∃ gs xs ys, cs = xs ++ ys ∧ Shp P t xs ∧ ShpF P gs ys ∧ gs.map (·.type) = ts := by
  cases h with
  | nil => cases e
  | cons f fs xs ys h1 h2 =>
    simp only [List.map_cons, List.cons.injEq] at e
    obtain ⟨rfl, rfl⟩ := e
    exact ⟨fs, xs, ys, rfl, h1, h2, rfl⟩
theorem shpF_nil {P : Program} {fs : List Field} {cs : List U} (h : ShpF P fs cs) (e : fs.map (·.type) = []) : cs = [] := by
  cases h with
  | nil => rfl
  | cons => cases e
theorem shp_span {cs : List U} (h : Shp Tryz.prog 24 cs) : ∃ a b : Int, cs = [.int .i64 a, .int .i64 b] := by
  obtain ⟨fs, e, hf⟩ := shp_fields h (by rw [f24]; simp)
  rw [f24] at e
  obtain ⟨g1, a1, b1, rfl, k1, r1, e1⟩ := shpF_cons hf e
  obtain ⟨g2, a2, b2, rfl, k2, r2, e2⟩ := shpF_cons r1 e1
  obtain rfl := shpF_nil r2 e2
  obtain ⟨x, rfl⟩ := shp_int k1
  obtain ⟨y, rfl⟩ := shp_int k2
  exact ⟨x, y, rfl⟩
theorem shp_lot {cs : List U} (h : Shp Tryz.prog 54 cs) : ∃ q : Tri, cs = [.int .i64 q.a, .int .i64 q.b, .int .i64 q.c] := by
  obtain ⟨fs, e, hf⟩ := shp_fields h (by rw [f39]; simp)
  rw [f39] at e
  obtain ⟨g1, a1, b1, rfl, k1, r1, e1⟩ := shpF_cons hf e
  obtain ⟨g2, a2, b2, rfl, k2, r2, e2⟩ := shpF_cons r1 e1
  obtain rfl := shpF_nil r2 e2
  obtain ⟨z, rfl⟩ := shp_int k1
  obtain ⟨x, y, rfl⟩ := shp_span k2
  exact ⟨⟨z, x, y⟩, rfl⟩
theorem shp_look {cs : List U} (h : Shp Tryz.prog 66 cs) : ∃ q : Tri, cs = [.int .i64 q.a, .int .i64 q.b, .int .i64 q.c] := by
  obtain ⟨fs, e, hf⟩ := shp_fields h (by rw [f49]; simp)
  rw [f49] at e
  obtain ⟨g1, a1, b1, rfl, k1, r1, e1⟩ := shpF_cons hf e
  obtain ⟨g2, a2, b2, rfl, k2, r2, e2⟩ := shpF_cons r1 e1
  obtain ⟨g3, a3, b3, rfl, k3, r3, e3⟩ := shpF_cons r2 e2
  obtain rfl := shpF_nil r3 e3
  obtain ⟨x, rfl⟩ := shp_int k1
  obtain ⟨y, rfl⟩ := shp_int k2
  obtain ⟨z, rfl⟩ := shp_int k3
  exact ⟨⟨x, y, z⟩, rfl⟩
theorem shpL_map {P : Program} {e : TypeId} {α : Type} {f : α → List U} {css : List (List U)} (h : ShpL P e css) (k : ∀ cs, Shp P e cs → ∃ q, cs = f q) : ∃ l : List α, css = l.map f := by
  induction css with
  | nil => exact ⟨[], rfl⟩
  | cons cs css ih =>
    cases h with
    | cons _ _ _ h1 h2 =>
      obtain ⟨q, rfl⟩ := k _ h1
      obtain ⟨l, rfl⟩ := ih h2
      exact ⟨q :: l, rfl⟩
theorem shp_slice {P : Program} {t e : TypeId} {cs : List U} (hu : P.underlying t = some (.slice e)) (h : Shp P t cs) : ∃ css, ShpL P e css ∧ cs = [.lst .ro (P.cellsOf e) (css.map (eU P e))] := by
  cases h with
  | slice _ e' css hu' hl => rw [hu] at hu'; cases hu'; exact ⟨css, hl, rfl⟩
  | int _ k n hu' _ => rw [hu] at hu'; cases hu'
  | bool _ _ hu' => rw [hu] at hu'; cases hu'
  | str _ _ hu' => rw [hu] at hu'; cases hu'
  | struct _ _ _ hu' => rw [hu] at hu'; cases hu'
  | array _ _ _ _ hu' => rw [hu] at hu'; cases hu'
theorem eu39 : ∀ cs, eU Tryz.prog 54 cs = .agg cs := by
  obtain ⟨fs, h⟩ := und_struct (P := Tryz.prog) (t := 54) 2 (by kernel_rfl)
  intro cs; unfold eU; rw [h]
theorem eu49 : ∀ cs, eU Tryz.prog 66 cs = .agg cs := by
  obtain ⟨fs, h⟩ := und_struct (P := Tryz.prog) (t := 66) 3 (by kernel_rfl)
  intro cs; unfold eU; rw [h]
theorem eu24 : ∀ cs, eU Tryz.prog 24 cs = .agg cs := by
  obtain ⟨fs, h⟩ := und_struct (P := Tryz.prog) (t := 24) 2 (by kernel_rfl)
  intro cs; unfold eU; rw [h]
theorem map_tris {F : List U → U} (he : ∀ cs, F cs = .agg cs) (l : List Tri) : (l.map fun q : Tri => [U.int .i64 q.a, .int .i64 q.b, .int .i64 q.c]).map F = trisU l := by
  rw [List.map_map]
  exact List.map_congr_left fun q _ => he _
theorem map_twos {F : List U → U} (he : ∀ cs, F cs = .agg cs) (l : List Two) : (l.map fun q : Two => [U.int .i64 q.a, .int .i64 q.b]).map F = twosU l := by
  rw [List.map_map]
  exact List.map_congr_left fun q _ => he _
theorem shp_tris {t e : TypeId} (hu : Tryz.prog.underlying t = some (.slice e)) (hc : Program.cellsOf Tryz.prog e = 3) (hq : ∀ cs, Shp Tryz.prog e cs → ∃ q : Tri, cs = [.int .i64 q.a, .int .i64 q.b, .int .i64 q.c]) (he : ∀ cs, eU Tryz.prog e cs = .agg cs) {cs : List U} (h : Shp Tryz.prog t cs) : ∃ l : List Tri, cs = [.lst .ro 3 (trisU l)] := by
  obtain ⟨css, hl, rfl⟩ := shp_slice hu h
  obtain ⟨l, rfl⟩ := shpL_map (f := fun q : Tri => [.int .i64 q.a, .int .i64 q.b, .int .i64 q.c]) hl hq
  refine ⟨l, ?_⟩
  rw [hc, map_tris he]
theorem shp_twos {cs : List U} (h : Shp Tryz.prog 25 cs) : ∃ l : List Two, cs = [.lst .ro 2 (twosU l)] := by
  obtain ⟨css, hl, rfl⟩ := shp_slice u25 h
  obtain ⟨l, rfl⟩ := shpL_map (f := fun q : Two => [.int .i64 q.a, .int .i64 q.b]) hl fun cs hcs => by obtain ⟨x, y, rfl⟩ := shp_span hcs; exact ⟨⟨x, y⟩, rfl⟩
  refine ⟨l, ?_⟩
  rw [cl24', map_twos eu24]
theorem shp_book {cs : List U} (h : Shp Tryz.prog 28 cs) : ∃ b : Bk, cs = b.cs := by
  obtain ⟨fs, e, hf⟩ := shp_fields h (by rw [f28]; simp)
  rw [f28] at e
  obtain ⟨g1, a1, b1, rfl, k1, r1, e1⟩ := shpF_cons hf e
  obtain ⟨g2, a2, b2, rfl, k2, r2, e2⟩ := shpF_cons r1 e1
  obtain ⟨g3, a3, b3, rfl, k3, r3, e3⟩ := shpF_cons r2 e2
  obtain ⟨g4, a4, b4, rfl, k4, r4, e4⟩ := shpF_cons r3 e3
  obtain ⟨g5, a5, b5, rfl, k5, r5, e5⟩ := shpF_cons r4 e4
  obtain ⟨g6, a6, b6, rfl, k6, r6, e6⟩ := shpF_cons r5 e5
  obtain ⟨g7, a7, b7, rfl, k7, r7, e7⟩ := shpF_cons r6 e6
  obtain ⟨g8, a8, b8, rfl, k8, r8, e8⟩ := shpF_cons r7 e7
  obtain ⟨g9, a9, b9, rfl, k9, r9, e9⟩ := shpF_cons r8 e8
  obtain ⟨g10, a10, b10, rfl, k10, r10, e10⟩ := shpF_cons r9 e9
  obtain ⟨g11, a11, b11, rfl, k11, r11, e11⟩ := shpF_cons r10 e10
  obtain rfl := shpF_nil r11 e11
  obtain ⟨lots, rfl⟩ := shp_tris u22 cl54' (fun _ h => shp_lot h) eu39 k1
  obtain ⟨tlo, thi, rfl⟩ := shp_span k2
  obtain ⟨thick, rfl⟩ := shp_int k3
  obtain ⟨crack, rfl⟩ := shp_int k4
  obtain ⟨glo, ghi, rfl⟩ := shp_span k5
  obtain ⟨thins, rfl⟩ := shp_twos k6
  obtain ⟨hot, rfl⟩ := shp_int k7
  obtain ⟨least, rfl⟩ := shp_int k8
  obtain ⟨clo, chi, rfl⟩ := shp_span k9
  obtain ⟨coal, rfl⟩ := shp_int k10
  obtain ⟨looks, rfl⟩ := shp_tris u26 cl66' (fun _ h => shp_look h) eu49 k11
  exact ⟨⟨lots, tlo, thi, thick, crack, glo, ghi, thins, hot, least, clo, chi, coal, looks⟩, rfl⟩
theorem checkR_ok {b : Bk} (h : ¬ checkR b ≠ 0) : Ok b := by
  apply valid_ok
  cases hv : valid b with
  | true => rfl
  | false => exact absurd (by unfold checkR; rw [hv]; decide) h
theorem ty29 : tyOf Tryz.prog 29 = .slice 3 := by kernel_rfl
abbrev intsU (l : List Int) : List U := l.map fun n => .int .i64 n
def sumI (l : List Int) : Int := l.foldl (· + ·) 0
theorem sum_take {l : List Int} {n : Nat} {x : Int} (h : l[n]? = some x) : sumI (l.take (n + 1)) = sumI (l.take n) + x := by
  unfold sumI
  rw [List.take_add_one, h, List.foldl_append]; rfl
theorem no_lst {k : Kd} (hk : k ≠ .own) (z : Nat) (es : List U) : NoOwn (.lst k z es) := NoOwn.of (by intro z es h; cases h; exact hk rfl)
noncomputable def b57 : Code := (Tryz.f57.body).getD .skip
theorem body57 : bodyOf Tryz.prog 57 = some (17, b57, [.tmp 2]) := by kernel_rfl
theorem pure57 : pureFn Tryz.prog 57 = true := by kernel_rfl
set_option maxHeartbeats 4000000 in
theorem ret57 (hi : Off is) (l : List Int) (hl : l.length ≤ 64) (hx : ∀ x ∈ l, 0 ≤ x ∧ x ≤ 100000) : RetP Tryz.prog is orc 57 [.lst .ro 1 (intsU l)] (.int .i64 (sumI l)) := by
  refine ret_of body57 pure57 (hi 57 (by decide)) rfl rfl (dat_l1 (dat_ints 6 .ro (fun h => by cases h) 1 l)) (.inl (.int _ _ _)) ?_
  refine k_seq (k_region ?_)
  refine o_assign rfl ?_
  refine o_nil ?_
  refine k_seq (k_region ?_)
  refine o_assign rfl ?_
  refine o_nil ?_
  refine k_seq ?_
  refine k_seq (k_region ?_)
  refine o_move rfl ?_
  refine o_len rfl ty29 rfl rfl ?_
  refine o_move rfl ?_
  refine o_nil ?_
  refine k_block ?_
  refine k_loop (fun k s => ∃ n : Nat, k + n = l.length ∧ (0 ≤ sumI (l.take n) ∧ sumI (l.take n) ≤ 100000 * n) ∧ Holds s [(3, .int .i64 (sumI (l.take n))), (6, .lst .ro 1 (intsU l)), (7, .int .i64 (intsU l).length), (8, .int .i64 n)]) (fun k s hI => ?_) l.length _ ?_
  · obtain ⟨n, hk, hb, hs⟩ := hI
    rw [hs.eq]
    refine k_seq (k_region ?_)
    refine o_lss rfl rfl rfl ?_
    refine o_nil ?_
    refine k_seq ?_
    refine k_cond rfl (fun h1 => ?_) (fun h1 => ?_)
    · have h3' : n < l.length := by
        have := of_decide_eq_true h1
        simp at this; omega
      obtain ⟨q, hq⟩ : ∃ q, l[n]? = some q := ⟨l[n], List.getElem?_eq_getElem h3'⟩
      have hqb := hx q (List.mem_of_getElem? hq)
      refine k_skip ?_
      refine k_seq ?_
      refine k_block ?_
      refine k_seq (k_region ?_)
      refine o_idx (u := .int .i64 q) rfl ty29 rfl rfl (Int.natCast_nonneg n) (by simp [hq]) cl3 ?_
      refine o_loadR1 rfl rfl sh3 rfl ?_
      refine o_assign rfl ?_
      refine o_nil ?_
      refine k_region ?_
      refine o_move rfl ?_
      refine o_move rfl ?_
      refine o_add rfl rfl rfl (by unfold I64; omega) ?_
      refine o_assign rfl ?_
      refine o_nil ?_
      refine k_region ?_
      refine o_add rfl rfl rfl (by unfold I64; omega) ?_
      refine o_move rfl ?_
      refine o_nil ?_
      exact ⟨k - 1, by omega, n + 1, by omega, (by rw [sum_take hq]; omega), .cons (congrArg (U.int .i64) (sum_take hq).symm) (.cons rfl (.cons rfl (.cons rfl (.nil rfl))))⟩
    · refine k_exit ?_
      refine k_seq (k_region ?_)
      refine o_move rfl ?_
      refine o_assign rfl ?_
      refine o_nil ?_
      refine k_ret ?_
      refine ⟨.inr rfl, _, .cons _ _ _ _ (.tmp 2) .nil, ?_⟩
      have h3' : n = l.length := by
        have := of_decide_eq_false h1
        simp at this; omega
      rw [h3', List.take_length] at *; exact .refl _
  · exact ⟨0, rfl, ⟨Int.le_refl 0, Int.le_refl 0⟩, .cons rfl (.cons rfl (.cons rfl (.cons rfl (.nil rfl))))⟩
end Go.Proofs.YtoldkckmenjknaaGreat.forgeFewest
