/- forge's functions, the specification's and the law's, by the logic of trees: what each gives back for all that it may be given. -/
import Derived.Test.YtniplfmjbjjocaaGreatVamBlows1
namespace Go.Proofs.YtniplfmjbjjocaaGreat.forgeBlows
open Vam
set_option linter.unusedVariables false
set_option linter.unusedSimpArgs false
set_option linter.constructorNameAsVariable false
variable {is : FuncId → Bool} {orc : Known}
theorem fld96_0 : fieldOf Tryz.prog 96 0 = some (0, 3) := by kernel_rfl
theorem fld96_1 : fieldOf Tryz.prog 96 1 = some (1, 46) := by kernel_rfl
theorem sh46 : shOf Tryz.prog 46 = .many 3 := by kernel_rfl
theorem sh96 : shOf Tryz.prog 96 = .many 4 := by kernel_rfl
theorem ty30 : tyOf Tryz.prog 30 = .slice 3 := by kernel_rfl
theorem ty46 : tyOf Tryz.prog 46 = .array 3 3 := by kernel_rfl
theorem ze46 : zeroL Tryz.prog 46 = some ((.cons (.int .i64 0) (.cons (.int .i64 0) (.cons (.int .i64 0) .nil))) : V) := by kernel_rfl
def bl (n s : Int) : Int := (n + 2 - s) / 3
theorem bl_b {n s : Int} (hn : 0 ≤ n ∧ n ≤ 301) (hs : 0 ≤ s ∧ s ≤ 2) : 0 ≤ bl n s ∧ bl n s ≤ 101 := by unfold bl; omega
abbrev intsU (l : List Int) : List U := l.map fun n => .int .i64 n
def sumI (l : List Int) : Int := l.foldl (· + ·) 0
theorem sum_take {l : List Int} {n : Nat} {x : Int} (h : l[n]? = some x) : sumI (l.take (n + 1)) = sumI (l.take n) + x := by
  unfold sumI
  rw [List.take_add_one, h, List.foldl_append]; rfl
theorem nb_dat {k : Nat} {u : U} (h : Dat k u) : NB u := h.nb
theorem no_lst {k : Kd} (hk : k ≠ .own) (z : Nat) (es : List U) : NoOwn (.lst k z es) := NoOwn.of (by intro z es h; cases h; exact hk rfl)
theorem no_fn (f : Nat) (a b : List U) : NoOwn (.fn f a b) := NoOwn.of (by intro z es h; cases h)

-- 21 saron/saronref00.Under params [24, 24] pure True
noncomputable def b29 : Code := (Tryz.f29.body).getD .skip
theorem body29 : bodyOf Tryz.prog 29 = some (17, b29, [.tmp 4]) := by kernel_rfl
theorem pure29 : pureFn Tryz.prog 29 = true := by kernel_rfl
set_option maxHeartbeats 4000000 in
theorem ret29 (hi : Off is) (a b c d : Int) : RetP Tryz.prog is orc 29 [spanU a b, spanU c d] (.bool (decide (c ≤ a) && decide (b ≤ d))) := by
  refine ret_of body29 pure29 (hi 29 (by decide)) rfl rfl (dat_l2 (dat_span _ _ _) (dat_span _ _ _)) (.inl (.bool _ _)) ?_
  refine k_seq (k_region ?_)
  refine o_box rfl rfl ?_
  refine o_box rfl rfl ?_
  refine o_assign rfl ?_
  refine o_nil ?_
  refine k_seq (k_region ?_)
  refine o_faddr rfl rfl fld24_0 ?_
  refine o_load1 rfl rfl rfl sh3 rfl ?_
  refine o_faddr rfl rfl fld24_0 ?_
  refine o_load1 rfl rfl rfl sh3 rfl ?_
  refine o_leq rfl rfl rfl ?_
  refine o_move rfl ?_
  refine o_guard rfl rfl rfl rfl (fun h1 => ?_) (fun h1 => ?_)
  · refine o_faddr rfl rfl fld24_1 ?_
    refine o_gD rfl rfl rfl rfl h1 ?_
    refine o_load1 rfl rfl rfl sh3 rfl ?_
    refine o_gD rfl rfl rfl rfl h1 ?_
    refine o_faddr rfl rfl fld24_1 ?_
    refine o_gD rfl rfl rfl rfl h1 ?_
    refine o_load1 rfl rfl rfl sh3 rfl ?_
    refine o_gD rfl rfl rfl rfl h1 ?_
    refine o_leq rfl rfl rfl ?_
    refine o_pickT rfl rfl h1 ?_
    refine o_assign rfl ?_
    refine o_nil ?_
    refine k_ret ?_
    refine ⟨.inr rfl, _, .cons _ _ _ _ (.tmp 4) .nil, ?_⟩
    rw [h1]; exact .refl _
  · refine o_gS rfl rfl rfl rfl h1 ?_
    refine o_gS rfl rfl rfl rfl h1 ?_
    refine o_gS rfl rfl rfl rfl h1 ?_
    refine o_gS rfl rfl rfl rfl h1 ?_
    refine o_pickF rfl rfl h1 ?_
    refine o_assign rfl ?_
    refine o_nil ?_
    refine k_ret ?_
    refine ⟨.inr rfl, _, .cons _ _ _ _ (.tmp 4) .nil, ?_⟩
    rw [h1]; exact .refl _

-- 76 saron/forge.blowsOf params [3, 3] pure True
noncomputable def b86 : Code := (Tryz.f86.body).getD .skip
theorem body86 : bodyOf Tryz.prog 86 = some (11, b86, [.tmp 4]) := by kernel_rfl
theorem pure86 : pureFn Tryz.prog 86 = true := by kernel_rfl
set_option maxHeartbeats 4000000 in
theorem ret86 (hi : Off is) (s n : Int) (hs : 0 ≤ s ∧ s ≤ 2) (hn : 0 ≤ n ∧ n ≤ 301) : RetP Tryz.prog is orc 86 [.int .i64 s, .int .i64 n] (.int .i64 (bl n s)) := by
  refine ret_of body86 pure86 (hi 86 (by decide)) rfl rfl (dat_l2 (.int _ _ _) (.int _ _ _)) (.inl (.int _ _ _)) ?_
  refine k_seq (k_region ?_)
  refine o_assign rfl ?_
  refine o_nil ?_
  refine k_seq (k_region ?_)
  refine o_move rfl ?_
  refine o_add rfl rfl rfl (by unfold I64; omega) ?_
  refine o_sub rfl rfl rfl (by unfold I64; omega) ?_
  refine o_move rfl ?_
  refine o_sub rfl rfl rfl (by unfold I64; omega) ?_
  refine o_quo rfl rfl rfl (by omega) (by rw [Int.tdiv_eq_ediv_of_nonneg (by omega)]; unfold I64; omega) ?_
  refine o_assign rfl ?_
  refine o_nil ?_
  refine k_ret ?_
  refine ⟨.inr rfl, _, .cons _ _ _ _ (.tmp 4) .nil, ?_⟩
  rw [show bl n s = (n + 3 - 1 - s).tdiv 3 by rw [Int.tdiv_eq_ediv_of_nonneg (by omega)]; unfold bl; omega]; exact .refl _

-- 52 saron/forge.sum[int] params [29] pure True
noncomputable def b87 : Code := (Tryz.f87.body).getD .skip
theorem body87 : bodyOf Tryz.prog 87 = some (17, b87, [.tmp 2]) := by kernel_rfl
theorem pure87 : pureFn Tryz.prog 87 = true := by kernel_rfl
set_option maxHeartbeats 4000000 in
theorem ret87 (hi : Off is) (l : List Int) (hl : l.length ≤ 64) (hx : ∀ x ∈ l, 0 ≤ x ∧ x ≤ 100000) : RetP Tryz.prog is orc 87 [.lst .ro 1 (intsU l)] (.int .i64 (sumI l)) := by
  refine ret_of body87 pure87 (hi 87 (by decide)) rfl rfl (dat_l1 (dat_ints 6 .ro (fun h => by cases h) 1 l)) (.inl (.int _ _ _)) ?_
  refine k_seq (k_region ?_)
  refine o_assign rfl ?_
  refine o_nil ?_
  refine k_seq (k_region ?_)
  refine o_assign rfl ?_
  refine o_nil ?_
  refine k_seq ?_
  refine k_seq (k_region ?_)
  refine o_move rfl ?_
  refine o_len rfl ty30 rfl rfl ?_
  refine o_move rfl ?_
  refine o_nil ?_
  refine k_block ?_

  refine k_loop (fun k s => ∃ n : Nat, k + n = l.length ∧ (0 ≤ sumI (l.take n) ∧ sumI (l.take n) ≤ 100000 * n) ∧ Holds s [(3, .int .i64 (sumI (l.take n))), (6, .lst .ro 1 (intsU l)), (7, .int .i64 (intsU l).length), (8, .int .i64 n)]) (fun k s hI => ?_) l.length _ ?_
  · obtain ⟨n, hk, hb, hs⟩ := hI
    rw [hs.eq]
    refine k_seq (k_region ?_)
    refine o_lss rfl rfl rfl ?_
    refine o_nil ?_
    refine k_seq ?_
    refine k_cond rfl (fun h1 => ?_) (fun h1 => ?_)
    · have h3' : n < l.length := by
        have := of_decide_eq_true h1
        simp at this; omega
      obtain ⟨q, hq⟩ : ∃ q, l[n]? = some q := ⟨l[n], List.getElem?_eq_getElem h3'⟩
      have hqb := hx q (List.mem_of_getElem? hq)
      refine k_skip ?_
      refine k_seq ?_
      refine k_block ?_
      refine k_seq (k_region ?_)
      refine o_idx (u := .int .i64 q) rfl ty30 rfl rfl (Int.natCast_nonneg n) (by simp [hq]) cl3 ?_
      refine o_loadR1 rfl rfl sh3 rfl ?_
      refine o_assign rfl ?_
      refine o_nil ?_
      refine k_region ?_
      refine o_move rfl ?_
      refine o_move rfl ?_
      refine o_add rfl rfl rfl (by unfold I64; omega) ?_
      refine o_assign rfl ?_
      refine o_nil ?_
      refine k_region ?_
      refine o_add rfl rfl rfl (by unfold I64; omega) ?_
      refine o_move rfl ?_
      refine o_nil ?_
      exact ⟨k - 1, by omega, n + 1, by omega, (by rw [sum_take hq]; omega), .cons (congrArg (U.int .i64) (sum_take hq).symm) (.cons rfl (.cons rfl (.cons rfl (.nil rfl))))⟩
    · refine k_exit ?_
      refine k_seq (k_region ?_)
      refine o_move rfl ?_
      refine o_assign rfl ?_
      refine o_nil ?_
      refine k_ret ?_
      refine ⟨.inr rfl, _, .cons _ _ _ _ (.tmp 2) .nil, ?_⟩
      have h3' : n = l.length := by
        have := of_decide_eq_false h1
        simp at this; omega
      rw [h3', List.take_length] at *; exact .refl _
  · exact ⟨0, rfl, ⟨Int.le_refl 0, Int.le_refl 0⟩, .cons rfl (.cons rfl (.cons rfl (.cons rfl (.nil rfl))))⟩

abbrev discU (th : Int) (q : Tri) : U := .agg [.int .i64 th, .int .i64 q.a, .int .i64 q.b, .int .i64 q.c]
theorem dat_disc (th : Int) (q : Tri) (k : Nat) : Dat (k + 2) (discU th q) := .agg _ _ fun c hc => by
  simp only [List.mem_cons, List.not_mem_nil, or_false] at hc
  rcases hc with rfl | rfl | rfl | rfl <;> exact .int _ _ _
def Tri.th (q : Tri) (i : Nat) : Int := match i with | 0 => q.a | 1 => q.b | _ => q.c
structure DOk (th : Int) (q : Tri) : Prop where
  t : 1 ≤ th ∧ th ≤ 3000
  a : 0 ≤ q.a ∧ q.a ≤ 20
  b : 0 ≤ q.b ∧ q.b ≤ 20
  c : 0 ≤ q.c ∧ q.c ≤ 20
theorem DOk.th {th : Int} {q : Tri} (h : DOk th q) (i : Nat) : 0 ≤ q.th i ∧ q.th i ≤ 20 := by
  unfold Tri.th; split
  · exact h.a
  · exact h.b
  · exact h.c
def lostI (q : Tri) (n : Int) (i k : Nat) : Int := if k < i then q.th k * bl n k else 0
abbrev lostL (q : Tri) (n : Int) (i : Nat) : List U := [.int .i64 (lostI q n i 0), .int .i64 (lostI q n i 1), .int .i64 (lostI q n i 2)]
theorem lost_set (q : Tri) (n : Int) {i : Nat} (hi : i < 3) : (lostL q n i).set i (.int .i64 (q.th i * bl n i)) = lostL q n (i + 1) := by
  have e : i = 0 ∨ i = 1 ∨ i = 2 := by omega
  rcases e with rfl | rfl | rfl <;> simp [lostL, lostI]
theorem th_at (q : Tri) {i : Nat} (hi : i < 3) : ([U.int .i64 q.a, .int .i64 q.b, .int .i64 q.c])[(i : Int).toNat * 1]? = some (.int .i64 (q.th i)) := by
  have e : i = 0 ∨ i = 1 ∨ i = 2 := by omega
  rcases e with rfl | rfl | rfl <;> rfl
theorem mul_b {x y : Int} (hx : 0 ≤ x ∧ x ≤ 20) (hy : 0 ≤ y ∧ y ≤ 101) : 0 ≤ x * y ∧ x * y ≤ 2020 := by
  have h1 := Int.mul_nonneg hx.1 hy.1
  have h2 := Int.mul_le_mul hx.2 hy.2 hy.1 (by omega)
  omega
def aft (th : Int) (q : Tri) (n : Int) : Int := th - (q.a * bl n 0 + q.b * bl n 1 + q.c * bl n 2)
theorem aft_b {th : Int} {q : Tri} (h : DOk th q) {n : Int} (hn : 0 ≤ n ∧ n ≤ 301) : -6060 ≤ aft th q n ∧ aft th q n ≤ 3000 := by
  have h0 := mul_b h.a (bl_b hn (s := 0) (by omega))
  have h1 := mul_b h.b (bl_b hn (s := 1) (by omega))
  have h2 := mul_b h.c (bl_b hn (s := 2) (by omega))
  have := h.t
  unfold aft; omega

-- 55 (saron/forge.disc).after params [92, 3] pure True
noncomputable def b67 : Code := (Tryz.f67.body).getD .skip
theorem body67 : bodyOf Tryz.prog 67 = some (27, b67, [.tmp 4]) := by kernel_rfl
theorem pure67 : pureFn Tryz.prog 67 = true := by kernel_rfl
set_option maxHeartbeats 4000000 in
theorem ret67 (hi : Off is) {th : Int} {q : Tri} (hd : DOk th q) (n : Int) (hn : 0 ≤ n ∧ n ≤ 301) : RetP Tryz.prog is orc 67 [discU th q, .int .i64 n] (.int .i64 (aft th q n)) := by
  refine ret_of body67 pure67 (hi 67 (by decide)) rfl rfl (dat_l2 (dat_disc _ _ _) (.int _ _ _)) (.inl (.int _ _ _)) ?_
  refine k_seq (k_region ?_)
  refine o_box rfl rfl ?_
  refine o_assign rfl ?_
  refine o_nil ?_
  refine k_seq (k_region ?_)
  refine o_alloc rfl ze46 ?_
  refine o_nil ?_
  refine k_seq ?_
  refine k_seq (k_region ?_)
  refine o_faddr rfl rfl fld96_1 ?_
  refine o_loadN rfl rfl rfl sh46 rfl ?_
  refine o_move rfl ?_
  refine o_nil ?_
  refine k_block ?_

  refine k_loop (fun k s => ∃ i : Nat, k + i = 3 ∧ s.st = [.box [.int .i64 th, .int .i64 q.a, .int .i64 q.b, .int .i64 q.c], .box (lostL q n i)] ∧ Holds s [(1, .int .i64 n), (2, .box 0 0), (5, .box 1 0), (9, .agg [.int .i64 q.a, .int .i64 q.b, .int .i64 q.c]), (10, .int .i64 i)]) (fun k s hI => ?_) 3 _ ?_
  · obtain ⟨i, hk, hst, hs⟩ := hI
    refine k_gen _ _ hs hst fun fr => ?_
    refine k_seq (k_region ?_)
    refine o_lss rfl rfl rfl ?_
    refine o_nil ?_
    refine k_seq ?_
    refine k_cond rfl (fun h1 => ?_) (fun h1 => ?_)
    · have h3' : i < 3 := by
        have := of_decide_eq_true h1
        omega
      have hb := bl_b hn (s := i) (by omega)
      have hm := mul_b (hd.th i) hb
      refine k_skip ?_
      refine k_seq ?_
      refine k_block ?_
      refine k_seq (k_region ?_)
      refine o_move rfl ?_
      refine o_idx1 rfl ty46 rfl rfl (Int.natCast_nonneg i) (by omega) cl3 sh3 (th_at q h3') ?_
      refine o_assign rfl ?_
      refine o_assign rfl ?_
      refine o_nil ?_
      refine k_region ?_
      refine o_move rfl ?_
      refine o_move rfl ?_
      refine o_move rfl ?_
      refine o_move rfl ?_
      refine o_call rfl (ret86 hi i n (by omega) hn) (.lrefl _) ?_
      refine o_mul (a := q.th i) (b := bl n i) rfl rfl rfl (by unfold I64; omega) ?_
      refine o_idxA rfl ty46 rfl rfl (by omega) (by omega) cl3 ?_
      refine o_store1 rfl rfl sh3 (by show Nat.blt (0 + (i : Int).toNat * 1) 3 = true; rw [Int.toNat_natCast, Nat.mul_one, Nat.blt_eq]; omega) rfl ?_
      refine o_nil ?_
      refine k_region ?_
      refine o_add rfl rfl rfl (by unfold I64; omega) ?_
      refine o_move rfl ?_
      refine o_nil ?_
      refine ⟨k - 1, by omega, i + 1, by omega, ?_, .cons rfl (.cons rfl (.cons rfl (.cons rfl (.cons rfl (.nil rfl)))))⟩
      show [SB.box _, SB.box ((lostL q n i).set (0 + (i : Int).toNat * 1) (.int .i64 (q.th i * bl n i)))] = _
      rw [Int.toNat_natCast, Nat.mul_one, Nat.zero_add, lost_set q n h3']
    · have h3' : i = 3 := by
        have := of_decide_eq_false h1
        omega
      subst h3'
      have m0 := mul_b hd.a (bl_b hn (s := 0) (by omega))
      have m1 := mul_b hd.b (bl_b hn (s := 1) (by omega))
      have m2 := mul_b hd.c (bl_b hn (s := 2) (by omega))
      have ht := hd.t
      have es : sumI [lostI q n 3 0, lostI q n 3 1, lostI q n 3 2] = q.a * bl n 0 + q.b * bl n 1 + q.c * bl n 2 := by
        show 0 + q.a * bl n 0 + q.b * bl n 1 + q.c * bl n 2 = _; omega
      refine k_exit ?_
      refine k_seq ?_
      refine k_draw [.plain, .read true, .plain, .read false, .plain, .plain] (by kernel_rfl) (by kernel_rfl) (by kernel_rfl) ?_
      refine d_plain (o_faddr rfl rfl fld96_0 (o_nil rfl)) ?_
      refine d_load rfl (o_load1 rfl rfl rfl sh3 rfl (o_nil rfl)) ?_
      refine d_plain (o_sliceA (es := intsU [lostI q n 3 0, lostI q n 3 1, lostI q n 3 2]) rfl ty46 cl3 rfl rfl rfl rfl (l1 := 0) (h1 := 3) (m1 := 3) rfl rfl rfl (.inl rfl) (by decide) (by decide) (by decide) rfl (by simp [cellsU]) rfl (o_nil rfl)) ?_
      refine d_callR rfl (ret87 hi [lostI q n 3 0, lostI q n 3 1, lostI q n 3 2] (by show 3 ≤ 64; omega) (by intro x hx; simp only [List.mem_cons, List.not_mem_nil, or_false] at hx; rcases hx with rfl | rfl | rfl; exact ⟨m0.1, by show q.a * bl n 0 ≤ _; omega⟩; exact ⟨m1.1, by show q.b * bl n 1 ≤ _; omega⟩; exact ⟨m2.1, by show q.c * bl n 2 ≤ _; omega⟩)) (flat_int _) (.lrefl _) ?_
      rw [es]
      refine d_plain (o_sub rfl rfl rfl (by unfold I64; omega) (o_nil rfl)) ?_
      refine d_plain (o_assign rfl (o_nil rfl)) ?_
      refine d_nil ?_
      refine k_ret ?_
      refine ⟨.inr rfl, _, .cons _ _ _ _ (.tmp 4) .nil, ?_⟩
      exact .refl _
  · exact ⟨0, rfl, rfl, .cons rfl (.cons rfl (.cons rfl (.cons rfl (.cons rfl (.nil rfl)))))⟩

def bel (th : Int) (q look : Tri) : Bool := !(decide (look.b - look.c ≤ aft th q look.a) && decide (aft th q look.a ≤ look.b + look.c))
structure LOk (look : Tri) : Prop where
  a : 0 ≤ look.a ∧ look.a ≤ 300
  b : 0 ≤ look.b ∧ look.b ≤ 3000
  c : 0 ≤ look.c ∧ look.c ≤ 50

-- 75 (saron/forge.disc).belies params [92, 49] pure True
noncomputable def b83 : Code := (Tryz.f83.body).getD .skip
theorem body83 : bodyOf Tryz.prog 83 = some (24, b83, [.tmp 4]) := by kernel_rfl
theorem pure83 : pureFn Tryz.prog 83 = true := by kernel_rfl
set_option maxHeartbeats 4000000 in
theorem ret83 (hi : Off is) {th : Int} {q look : Tri} (hd : DOk th q) (hl : LOk look) : RetP Tryz.prog is orc 83 [discU th q, look.u] (.bool (bel th q look)) := by
  refine ret_of body83 pure83 (hi 83 (by decide)) rfl rfl (dat_l2 (dat_disc _ _ _) (.agg _ _ (dat_l3 (.int _ _ _) (.int _ _ _) (.int _ _ _)))) (.inl (.bool _ _)) ?_
  have l1 := hl.a; have l2 := hl.b; have l3 := hl.c; have a1 := aft_b hd (n := look.a) (by omega)
  refine k_seq (k_region ?_)
  refine o_box rfl rfl ?_
  refine o_box rfl rfl ?_
  refine o_assign rfl ?_
  refine o_nil ?_
  refine k_seq (k_region ?_)
  refine o_faddr rfl rfl fld56_1 ?_
  refine o_load1 rfl rfl rfl sh3 rfl ?_
  refine o_faddr rfl rfl fld56_2 ?_
  refine o_load1 rfl rfl rfl sh3 rfl ?_
  refine o_sub rfl rfl rfl (by unfold I64; omega) ?_
  refine o_faddr rfl rfl fld56_1 ?_
  refine o_load1 rfl rfl rfl sh3 rfl ?_
  refine o_faddr rfl rfl fld56_2 ?_
  refine o_load1 rfl rfl rfl sh3 rfl ?_
  refine o_add rfl rfl rfl (by unfold I64; omega) ?_
  refine o_build (cs := [.int .i64 (look.b - look.c), .int .i64 (look.b + look.c)]) rfl ze24 pl24 rfl rfl ?_
  refine o_alloc rfl ze24 ?_
  refine o_storeN rfl rfl sh24 rfl rfl rfl rfl rfl ?_
  refine o_nil ?_
  refine k_seq ?_
  refine k_draw [.read true, .read true, .plain, .read true, .read false, .plain, .plain, .plain] (by kernel_rfl) (by kernel_rfl) (by kernel_rfl) ?_
  refine d_load rfl (o_loadN rfl rfl rfl sh24 rfl (o_nil rfl)) ?_
  refine d_load rfl (o_loadN rfl rfl rfl sh96 rfl (o_nil rfl)) ?_
  refine d_plain (o_faddr rfl rfl fld56_0 (o_nil rfl)) ?_
  refine d_load rfl (o_load1 rfl rfl rfl sh3 rfl (o_nil rfl)) ?_
  refine d_callR rfl (ret67 hi hd look.a (by omega)) (flat_int _) (.lrefl _) ?_
  refine d_plain (o_call rfl (ret37 hi (look.b - look.c) (look.b + look.c) (aft th q look.a)) (.lrefl _) (o_nil rfl)) ?_
  refine d_plain (o_not rfl rfl (o_nil rfl)) ?_
  refine d_plain (o_assign rfl (o_nil rfl)) ?_
  refine d_nil ?_
  refine k_ret ?_
  refine ⟨.inr rfl, _, .cons _ _ _ _ (.tmp 4) .nil, ?_⟩
  exact .refl _

def fidx {α : Type} (p : α → Bool) : List α → Nat → Int
  | [], _ => -1
  | x :: l, n => if p x then n else fidx p l (n + 1)
theorem fidx_any {α : Type} (p : α → Bool) (l : List α) (n : Nat) : decide (0 ≤ fidx p l n) = l.any p := by
  induction l generalizing n with
  | nil => rfl
  | cons x l ih =>
    unfold fidx
    rw [List.any_cons]
    by_cases h : p x = true
    · rw [if_pos h, h]; simp
    · rw [if_neg h, ih]
      simp at h; rw [h]; simp
theorem drop_at {α : Type} {l : List α} {n : Nat} {x : α} (h : l[n]? = some x) : l.drop n = x :: l.drop (n + 1) := by
  obtain ⟨h1, h2⟩ := List.getElem?_eq_some_iff.1 h
  rw [List.drop_eq_getElem_cons h1, h2]

-- 90 slices.IndexFunc[[]saron/api.ForgeLook,saron/api.ForgeLook] params [26, 123] pure False
noncomputable def b101 : Code := (Tryz.f101.body).getD .skip
theorem body101 : bodyOf Tryz.prog 101 = some (19, b101, [.tmp 4]) := by kernel_rfl
theorem pure101 : pureFn Tryz.prog 101 = false := by kernel_rfl
set_option maxHeartbeats 4000000 in
theorem ret101 (hi : Off is) {th : Int} {q : Tri} (hd : DOk th q) (L : List Tri) (hL : ∀ l ∈ L, LOk l) (hn : L.length ≤ 4096) : RetP Tryz.prog is orc 101 [.lst .ro 3 (trisU L), .fn 83 [discU th q] []] (.int .i64 (fidx (bel th q) L 0)) := by
  refine ret_of_shared body101 pure101 rfl rfl (by
    intro u hu
    simp only [List.mem_cons, List.not_mem_nil, or_false] at hu
    rcases hu with rfl | rfl
    · exact ⟨(dat_tris L .ro (fun h => by cases h) 6).nb, no_lst (fun h => by cases h) _ _⟩
    · exact ⟨NB.fn (fun u hu => by simp only [List.mem_cons, List.not_mem_nil, or_false] at hu; subst hu; exact (dat_disc th q 6).nb) (fun u hu => by cases hu), no_fn _ _ _⟩) (NB.int _ _) ?_
  refine k_seq (k_region ?_)
  refine o_assign rfl ?_
  refine o_nil ?_
  refine k_seq ?_
  refine k_seq (k_region ?_)
  refine o_move rfl ?_
  refine o_len rfl ty26 rfl rfl ?_
  refine o_move rfl ?_
  refine o_nil ?_
  refine k_block ?_

  refine k_loop (fun k s => ∃ n : Nat, k + n = L.length ∧ fidx (bel th q) L 0 = fidx (bel th q) (L.drop n) n ∧ Holds s [(0, .lst .ro 3 (trisU L)), (1, .fn 83 [discU th q] []), (7, .int .i64 (trisU L).length), (8, .int .i64 n)]) (fun k s hI => ?_) L.length _ ?_
  · obtain ⟨n, hk, hf, hs⟩ := hI
    refine k_gen _ _ hs rfl fun fr => ?_
    refine k_seq (k_region ?_)
    refine o_lss rfl rfl rfl ?_
    refine o_nil ?_
    refine k_seq ?_
    refine k_cond rfl (fun h1 => ?_) (fun h1 => ?_)
    · have h3' : n < L.length := by
        have := of_decide_eq_true h1
        simp at this; omega
      obtain ⟨p, hq⟩ : ∃ p, L[n]? = some p := ⟨L[n], List.getElem?_eq_getElem h3'⟩
      have hp := hL p (List.mem_of_getElem? hq)
      refine k_skip ?_
      refine k_seq ?_
      refine k_block ?_
      refine k_seq (k_region ?_)
      refine o_move rfl ?_
      refine o_assign rfl ?_
      refine o_nil ?_
      refine k_seq (k_region ?_)
      refine o_move rfl ?_
      refine o_move rfl ?_
      refine o_move rfl ?_
      refine o_idx (u := p.u) rfl ty26 rfl rfl (Int.natCast_nonneg n) (by simp [hq]) cl56 ?_
      refine o_loadRN rfl rfl sh56 rfl ?_
      refine o_callV rfl rfl (wpc_ret (ret83 hi hd hp)) (.lrefl _) (fun u st1 hM => ?_)
      obtain ⟨rfl, rfl⟩ := hM
      refine o_nil ?_
      refine k_cond rfl (fun h2 => ?_) (fun h2 => ?_)
      · refine k_seq (k_region ?_)
        refine o_move rfl ?_
        refine o_assign rfl ?_
        refine o_nil ?_
        refine k_ret ?_
        refine ⟨.inr rfl, _, .cons _ _ _ _ (.tmp 4) .nil, ?_⟩
        rw [hf, drop_at hq, fidx, if_pos h2]; exact .refl _
      · refine k_skip ?_
        refine k_region ?_
        refine o_add rfl rfl rfl (by unfold I64; omega) ?_
        refine o_move rfl ?_
        refine o_nil ?_
        have e2 : ¬ bel th q p = true := by rw [h2]; simp
        exact ⟨k - 1, by omega, n + 1, by omega, (by rw [hf, drop_at hq, fidx, if_neg e2]), .cons rfl (.cons rfl (.cons rfl (.cons rfl (.nil rfl))))⟩
    · refine k_exit ?_
      refine k_seq (k_region ?_)
      refine o_assign rfl ?_
      refine o_nil ?_
      refine k_ret ?_
      refine ⟨.inr rfl, _, .cons _ _ _ _ (.tmp 4) .nil, ?_⟩
      have h3' : n = L.length := by
        have := of_decide_eq_false h1
        simp at this; omega
      rw [hf, h3', List.drop_length, fidx]; exact .refl _
  · exact ⟨0, rfl, rfl, .cons rfl (.cons rfl (.cons rfl (.cons rfl (.nil rfl))))⟩

-- 74 slices.ContainsFunc[[]saron/api.ForgeLook,saron/api.ForgeLook] params [26, 123] pure False
noncomputable def b82 : Code := (Tryz.f82.body).getD .skip
theorem body82 : bodyOf Tryz.prog 82 = some (9, b82, [.tmp 4]) := by kernel_rfl
theorem pure82 : pureFn Tryz.prog 82 = false := by kernel_rfl
set_option maxHeartbeats 4000000 in
theorem ret82 (hi : Off is) {th : Int} {q : Tri} (hd : DOk th q) (L : List Tri) (hL : ∀ l ∈ L, LOk l) (hn : L.length ≤ 4096) : RetP Tryz.prog is orc 82 [.lst .ro 3 (trisU L), .fn 83 [discU th q] []] (.bool (L.any (bel th q))) := by
  refine ret_of_shared body82 pure82 rfl rfl (by
    intro u hu
    simp only [List.mem_cons, List.not_mem_nil, or_false] at hu
    rcases hu with rfl | rfl
    · exact ⟨(dat_tris L .ro (fun h => by cases h) 6).nb, no_lst (fun h => by cases h) _ _⟩
    · exact ⟨NB.fn (fun u hu => by simp only [List.mem_cons, List.not_mem_nil, or_false] at hu; subst hu; exact (dat_disc th q 6).nb) (fun u hu => by cases hu), no_fn _ _ _⟩) (NB.bool _) ?_
  refine k_seq (k_region ?_)
  refine o_assign rfl ?_
  refine o_nil ?_
  refine k_seq (k_region ?_)
  refine o_move rfl ?_
  refine o_move rfl ?_
  refine o_call rfl (ret101 hi hd L hL hn) (.lrefl _) ?_
  refine o_geq rfl rfl rfl ?_
  refine o_assign rfl ?_
  refine o_nil ?_
  refine k_ret ?_
  refine ⟨.inr rfl, _, .cons _ _ _ _ (.tmp 4) .nil, ?_⟩
  rw [← fidx_any (bel th q) L 0]; exact .refl _

theorem sh65 : shOf Tryz.prog 65 = .one := by kernel_rfl
theorem sh117 : shOf Tryz.prog 117 = .one := by kernel_rfl
theorem sh118 : shOf Tryz.prog 118 = .one := by kernel_rfl
theorem ty65 : tyOf Tryz.prog 65 = .slice 96 := by kernel_rfl
theorem cl96 : Program.cellsOf Tryz.prog 96 = 4 := by kernel_rfl
theorem by96 : Program.bytesOf Tryz.prog 96 = 32 := by kernel_rfl
theorem pl96 : plcOf Tryz.prog 96 = some [(0, 1), (1, 3)] := by kernel_rfl
theorem ze118 : zeroL Tryz.prog 118 = some ((.cons .nilf .nil) : V) := by kernel_rfl
theorem ze65 : zeroL Tryz.prog 65 = some ((.cons .nils .nil) : V) := by kernel_rfl
theorem ze96 : zeroL Tryz.prog 96 = some ((.cons (.int .i64 0) (.cons (.int .i64 0) (.cons (.int .i64 0) (.cons (.int .i64 0) .nil)))) : V) := by kernel_rfl
theorem ap65_65 : AppT Tryz.prog 65 65 96 4 32 ((.cons (.int .i64 0) (.cons (.int .i64 0) (.cons (.int .i64 0) (.cons (.int .i64 0) .nil)))) : V) := ⟨ty65, ⟨_, ty65⟩, cl96, by decide, by96, ze96, rfl⟩

/-! ### Boxes that are known, behind others -/
theorem Bd.mono {n m : Nat} {u : U} (h : Bd n u) (hm : n ≤ m) : Bd m u := fun φ S v hv => (h φ S v hv).mono (fun a b e => BMap.cut_of (by have := (BMap.cut_some e).1; omega) (BMap.cut_some e).2) S.le_refl
theorem BdS.mono {n m : Nat} {x : SB} (h : BdS n x) (hm : n ≤ m) : BdS m x := by
  cases x with
  | box cs => exact fun c hc => Bd.mono (h c hc) hm
  | froz cs => exact fun c hc => Bd.mono (h c hc) hm
  | map es => exact fun p hp => ⟨Bd.mono (h p hp).1 hm, Bd.mono (h p hp).2 hm⟩
  | loop q l => exact fun i => Bd.mono (h i) hm
  | dead => trivial
/-- boxes of plain data -/
def Ext (l : List SB) : Prop := ∀ x ∈ l, ∃ cs, x = .box cs ∧ ∀ c ∈ cs, NB c
theorem Ext.nil : Ext [] := fun _ h => by cases h
theorem Ext.snoc {l : List SB} {cs : List U} (h : Ext l) (hc : ∀ c ∈ cs, NB c) : Ext (l ++ [.box cs]) := fun x hx => by
  rcases List.mem_append.1 hx with hx | hx
  · exact h x hx
  · rcases List.mem_singleton.1 hx with rfl; exact ⟨cs, rfl, hc⟩
theorem Ext.app {l m : List SB} (h : Ext l) (k : Ext m) : Ext (l ++ m) := fun x hx => by
  rcases List.mem_append.1 hx with hx | hx
  · exact h x hx
  · exact k x hx
theorem Ext.bd {l : List SB} (h : Ext l) (n : Nat) : ∀ x ∈ l, BdS n x := fun x hx => by
  obtain ⟨cs, rfl, k⟩ := h x hx
  exact fun c hc => (k c hc).bd n
theorem at_pre {l m : List SB} {i : Nat} {x : SB} (h : l[i]? = some x) : (l ++ m)[i]? = some x := by
  rw [List.getElem?_append_left (List.getElem?_eq_some_iff.1 h).1, h]

/-! ### The discs, in their order -/
def setT (q : Tri) (k : Nat) (t : Int) : Tri := match k with | 0 => ⟨t, q.b, q.c⟩ | 1 => ⟨q.a, t, q.c⟩ | _ => ⟨q.a, q.b, t⟩
def loT (b : Bk) (k : Nat) : Int := ((b.thins[k]?).map Two.a).getD 1
def hiT (b : Bk) (k : Nat) : Int := ((b.thins[k]?).map Two.b).getD 1
def widT (b : Bk) (k : Nat) : Nat := (hiT b k - loT b k + 1).toNat
def lvs (b : Bk) : Nat → Nat → Tri → List Tri
  | 0, _, q => [q]
  | r + 1, k, q => (List.range (widT b k)).flatMap fun j : Nat => lvs b r (k + 1) (setT q k (loT b k + j))
def part (b : Bk) (r k : Nat) (q : Tri) (j : Nat) : List Tri := (List.range j).flatMap fun j : Nat => lvs b r (k + 1) (setT q k (loT b k + j))
theorem part_succ (b : Bk) (r k : Nat) (q : Tri) (j : Nat) : part b r k q (j + 1) = part b r k q j ++ lvs b r (k + 1) (setT q k (loT b k + j)) := by
  unfold part
  rw [List.range_succ, List.flatMap_append]
  simp
theorem loT_at {b : Bk} {k : Nat} {p : Two} (h : b.thins[k]? = some p) : loT b k = p.a ∧ hiT b k = p.b := by
  unfold loT hiT; rw [h]; exact ⟨rfl, rfl⟩
theorem wid_le {b : Bk} (hb : Ok b) (k : Nat) : 1 ≤ loT b k ∧ loT b k ≤ hiT b k ∧ hiT b k ≤ 20 := by
  cases h : b.thins[k]? with
  | none => unfold loT hiT; rw [h]; simp
  | some p =>
    obtain ⟨e1, e2⟩ := loT_at h
    rw [e1, e2]; exact hb.thins p (List.mem_of_getElem? h)
theorem lvs_len {b : Bk} (hb : Ok b) : ∀ (r k : Nat) (q : Tri), (lvs b r k q).length ≤ 20 ^ r := by
  intro r
  induction r with
  | zero => intro k q; exact Nat.le_refl 1
  | succ r ih =>
    intro k q
    have h := wid_le hb k
    have key : ∀ j : Nat, (part b r k q j).length ≤ j * 20 ^ r := by
      intro j
      induction j with
      | zero => simp [part]
      | succ j ihj => rw [part_succ, List.length_append, Nat.succ_mul]; exact Nat.add_le_add ihj (ih _ _)
    refine Nat.le_trans (key (widT b k)) ?_
    rw [Nat.pow_succ, Nat.mul_comm]
    exact Nat.mul_le_mul_left _ (by unfold widT; omega)
theorem part_len {b : Bk} (hb : Ok b) (r k : Nat) (q : Tri) (j : Nat) : (part b r k q j).length ≤ j * 20 ^ r := by
  induction j with
  | zero => simp [part]
  | succ j ihj => rw [part_succ, List.length_append, Nat.succ_mul]; exact Nat.add_le_add ihj (lvs_len hb _ _ _)
theorem setT_ok {th : Int} {q : Tri} (h : DOk th q) (k : Nat) {t : Int} (ht : 1 ≤ t ∧ t ≤ 20) : DOk th (setT q k t) := by
  unfold setT
  split
  · exact ⟨h.t, (by show 0 ≤ t ∧ t ≤ 20; omega), h.b, h.c⟩
  · exact ⟨h.t, h.a, (by show 0 ≤ t ∧ t ≤ 20; omega), h.c⟩
  · exact ⟨h.t, h.a, h.b, (by show 0 ≤ t ∧ t ≤ 20; omega)⟩
theorem setT_set (th : Int) (q : Tri) {k : Nat} (hk : k < 3) (t : Int) : ([U.int .i64 th, .int .i64 q.a, .int .i64 q.b, .int .i64 q.c]).set (1 + k) (.int .i64 t) = [U.int .i64 th, .int .i64 (setT q k t).a, .int .i64 (setT q k t).b, .int .i64 (setT q k t).c] := by
  have e : k = 0 ∨ k = 1 ∨ k = 2 := by omega
  rcases e with rfl | rfl | rfl <;> rfl
theorem setT_setT (q : Tri) (k : Nat) (t u : Int) : setT (setT q k t) k u = setT q k u := by
  match k with
  | 0 => rfl
  | 1 => rfl
  | _ + 2 => rfl
theorem nb_disc (th : Int) (q : Tri) : ∀ c ∈ [U.int .i64 th, .int .i64 q.a, .int .i64 q.b, .int .i64 q.c], NB c := by
  intro c hc
  simp only [List.mem_cons, List.not_mem_nil, or_false] at hc
  rcases hc with rfl | rfl | rfl | rfl <;> exact NB.int _ _

/-- what a loop over the discs keeps: its boxes -/
structure Seen (b : Bk) (n N y bi fi a : Nat) (lp : Lp) (X : List Tri → List SB) : Prop where
  len : ∀ l, (X l).length = N
  bd : ∀ l, ∀ x ∈ X l, BdS N x
  by_ : ∀ l, (X l)[y]? = some (.box [.yld a])
  bb : ∀ l, (X l)[bi]? = some (.box (bkN b n))
  bf : ∀ l, (X l)[fi]? = some (.box [.fn 89 [] [.box y 0, .box bi 0, .box fi 0]])
  bl : ∀ l, (X l)[a]? = some (.loop .ready lp)
  own : ∀ i, NoOwn (lp.fr i)
  ps : lp.ps = [7]
  run : ∀ (is : FuncId → Bool) (orc : Known), Off is → ∀ l q e, DOk b.thick q → l.length < 8000 → Ext e → WpY Tryz.prog is orc a lp [discU b.thick q] (X l ++ e) fun u st' => u = .bool true ∧ ∃ e', Ext e' ∧ st' = X (l ++ [q]) ++ (e ++ e')
theorem Seen.bd' {b : Bk} {n N y bi fi a : Nat} {lp : Lp} {X : List Tri → List SB} (h : Seen b n N y bi fi a lp X) {e : List SB} (he : Ext e) (l : List Tri) : ∀ x ∈ X l ++ e, BdS (N + e.length) x := fun x hx => by
  rcases List.mem_append.1 hx with hx | hx
  · exact BdS.mono (h.bd l x hx) (by omega)
  · exact he.bd _ x hx

-- 81 (saron/forge.book).discs$1$1 params [92, 3] pure False
noncomputable def b89 : Code := (Tryz.f89.body).getD .skip
theorem body89 : bodyOf Tryz.prog 89 = some (42, b89, [.tmp 7]) := by kernel_rfl
theorem pure89 : pureFn Tryz.prog 89 = false := by kernel_rfl
set_option maxHeartbeats 4000000 in
theorem wpc89 (hi : Off is) {b : Bk} (hb : Ok b) {n N y bi fi a : Nat} {lp : Lp} {X : List Tri → List SB} (h : Seen b n N y bi fi a lp X) : ∀ (r k : Nat) (q : Tri) (l : List Tri) (e : List SB), k + r = 3 → DOk b.thick q → l.length + 20 ^ r ≤ 8000 → Ext e →
    WpC Tryz.prog is orc 89 [discU b.thick q, .int .i64 k, .box y 0, .box bi 0, .box fi 0] (X l ++ e) fun u st' => u = .bool true ∧ st' = X (l ++ lvs b r k q) ++ e := by
  intro r
  induction r with
  | zero =>
    intro k q l e hk hd hl he
    have hk3 : k = 3 := by omega
    subst hk3
    refine wpc_cut body89 pure89 rfl rfl ?_
    refine k_seq ?_
    refine k_region ?_   -- region 0 disc.go:20
    refine o_box rfl rfl ?_
    refine o_assign rfl ?_
    refine o_nil ?_
    refine k_gen [(0, discU b.thick q), (1, .int .i64 3), (2, .box y 0), (3, .box bi 0), (4, .box fi 0), (5, .box (X l ++ e).length 0)] (X l ++ (e ++ [.box [.int .i64 b.thick, .int .i64 q.a, .int .i64 q.b, .int .i64 q.c]])) (.cons rfl (.cons rfl (.cons rfl (.cons rfl (.cons rfl (.cons rfl (.nil rfl))))))) (by show (X l ++ e) ++ [_] = _; rw [List.append_assoc]; rfl) fun fr => ?_
    refine k_seq ?_
    refine k_seq ?_
    refine k_region ?_   -- region 1 disc.go:21
    refine o_move rfl ?_
    refine o_eql rfl rfl rfl ?_
    refine o_nil ?_
    refine k_cond rfl (fun h1 => ?_) (fun h1 => by cases h1)   -- slot 10
    refine k_seq ?_
    refine k_region ?_   -- region 2 disc.go:22
    refine o_load1 rfl rfl (at_pre (h.by_ l)) sh117 rfl ?_
    refine o_loadN rfl rfl (cs := [.int .i64 b.thick, .int .i64 q.a, .int .i64 q.b, .int .i64 q.c]) (by show (X l ++ (e ++ [_]))[(X l ++ e).length]? = _; rw [← List.append_assoc]; exact at_new _ _) sh96 rfl ?_
    refine o_yield (a := a) rfl rfl (at_pre (h.bl l)) h.own (by rw [h.ps]; rfl) (by rw [h.ps]; rfl) (.lrefl _) (h.run is orc hi l q (e ++ [_]) hd (by omega) (he.snoc (nb_disc _ _))) (fun u st1 hM => ?_)
    obtain ⟨rfl, e', he', rfl⟩ := hM
    refine o_assign rfl ?_
    refine o_nil ?_
    refine k_ret ?_
    refine ⟨.inr rfl, _, .cons _ _ _ _ (.tmp 7) .nil, ?_⟩
    have hX := h.len (l ++ [q])
    have hX1 := h.len l
    have et : (X (l ++ [q]) ++ ((e ++ [SB.box [.int .i64 b.thick, .int .i64 q.a, .int .i64 q.b, .int .i64 q.c]]) ++ e')).take (X l ++ e).length = X (l ++ [q]) ++ e := by
      rw [List.append_assoc e, ← List.append_assoc (X (l ++ [q])), List.take_left' (by simp [hX, hX1])]
    refine ⟨_, .refl _, Bd.bool _ _, ?_, ?_, rfl, et⟩
    · show (X l ++ e).length ≤ (X (l ++ [q]) ++ ((e ++ [SB.box _]) ++ e')).length
      simp [hX, hX1]
    · show ∀ x ∈ (X (l ++ [q]) ++ ((e ++ [SB.box _]) ++ e')).take (X l ++ e).length, _
      rw [et, List.length_append, hX1]
      exact h.bd' he _
  | succ r ih =>
    intro k q l e hk hd hl he
    have hk3 : k < 3 := by omega
    obtain ⟨p, hp⟩ : ∃ p, b.thins[k]? = some p := ⟨_, List.getElem?_eq_getElem (by rw [hb.nt]; exact hk3)⟩
    obtain ⟨el, eh⟩ := loT_at hp
    have hw := wid_le hb k
    rw [el, eh] at hw
    refine wpc_cut body89 pure89 rfl rfl ?_
    refine k_seq ?_
    refine k_region ?_   -- region 0 disc.go:20
    refine o_box rfl rfl ?_
    refine o_assign rfl ?_
    refine o_nil ?_
    refine k_gen [(1, .int .i64 k), (2, .box y 0), (3, .box bi 0), (4, .box fi 0), (5, .box (X l ++ e).length 0)] (X l ++ (e ++ [.box [.int .i64 b.thick, .int .i64 q.a, .int .i64 q.b, .int .i64 q.c]])) (.cons rfl (.cons rfl (.cons rfl (.cons rfl (.cons rfl (.nil rfl)))))) (by show (X l ++ e) ++ [_] = _; rw [List.append_assoc]; rfl) fun fr => ?_
    refine k_seq ?_
    refine k_seq ?_
    refine k_region ?_   -- region 1 disc.go:21
    refine o_move rfl ?_
    refine o_eql rfl rfl rfl ?_
    refine o_nil ?_
    refine k_cond rfl (fun h1 => absurd h1 (by simp; omega)) (fun h1 => ?_)   -- slot 10
    refine k_skip ?_
    refine k_seq ?_
    refine k_seq ?_
    refine k_region ?_   -- region 3 disc.go:24
    refine o_faddr rfl rfl fld67_0 ?_
    refine o_faddr rfl rfl fld28_5 ?_
    refine o_load1 rfl rfl (at_pre (h.bb l)) sh25 rfl ?_
    refine o_move rfl ?_
    refine o_idx (u := p.u) rfl ty25 rfl rfl (Int.natCast_nonneg k) (by simp [hp]) cl24 ?_
    refine o_faddrR rfl rfl fld24_0 ?_
    refine o_loadR1 rfl rfl sh3 rfl ?_
    refine o_assign rfl ?_
    refine o_nil ?_
    refine k_block ?_
    -- LOOP 1
    refine k_loop (fun kk s => ∃ (j : Nat) (q' : Tri), kk + j = widT b k ∧ (∀ t, setT q' k t = setT q k t) ∧ DOk b.thick q' ∧ s.st = X (l ++ part b r k q j) ++ (e ++ [.box [.int .i64 b.thick, .int .i64 q'.a, .int .i64 q'.b, .int .i64 q'.c]]) ∧
      Holds s [(1, .int .i64 k), (2, .box y 0), (3, .box bi 0), (4, .box fi 0), (5, .box (X l ++ e).length 0), (8, .int .i64 (p.a + j))]) (fun kk s hI => ?_) (widT b k) _ ?_
    · obtain ⟨j, q', hkk, hq', hd', hst, hs⟩ := hI
      refine k_gen _ _ hs hst fun fr => ?_
      have hX0 := h.len l
      have hXj := h.len (l ++ part b r k q j)
      have pl := part_len hb r k q j
      refine k_seq ?_
      refine k_seq ?_
      refine k_region ?_   -- region 4 disc.go:24
      refine o_move rfl ?_
      refine o_faddr rfl rfl fld67_0 ?_
      refine o_faddr rfl rfl fld28_5 ?_
      refine o_load1 rfl rfl (at_pre (h.bb _)) sh25 rfl ?_
      refine o_move rfl ?_
      refine o_idx (u := p.u) rfl ty25 rfl rfl (Int.natCast_nonneg k) (by simp [hp]) cl24 ?_
      refine o_faddrR rfl rfl fld24_1 ?_
      refine o_loadR1 rfl rfl sh3 rfl ?_
      refine o_leq rfl rfl rfl ?_
      refine o_nil ?_
      refine k_cond rfl (fun h2 => ?_) (fun h2 => ?_)   -- slot 29
      · have h2' : p.a + j ≤ p.b := of_decide_eq_true h2
        have hj : j < widT b k := by unfold widT; rw [el, eh]; omega
        have hj20 : j < 20 := by omega
        have hlen : (l ++ part b r k q j).length + 20 ^ r ≤ 8000 := by
          rw [List.length_append]
          have e1 : 20 ^ (r + 1) = 20 * 20 ^ r := by rw [Nat.pow_succ, Nat.mul_comm]
          have e2 : (j + 1) * 20 ^ r ≤ 20 * 20 ^ r := Nat.mul_le_mul_right _ (by omega)
          rw [Nat.succ_mul] at e2
          omega
        have hdn := setT_ok hd' k (t := p.a + j) (by omega)
        have hbx : (X (l ++ part b r k q j) ++ (e ++ [SB.box [.int .i64 b.thick, .int .i64 q'.a, .int .i64 q'.b, .int .i64 q'.c]]))[(X l ++ e).length]? = some (.box [.int .i64 b.thick, .int .i64 q'.a, .int .i64 q'.b, .int .i64 q'.c]) := by
          rw [← List.append_assoc, show (X l ++ e).length = (X (l ++ part b r k q j) ++ e).length by simp [hX0, hXj]]; exact at_new _ _
        refine k_skip ?_
        refine k_seq ?_
        refine k_block ?_
        refine k_seq ?_
        refine k_region ?_   -- region 6 disc.go:25
        refine o_move rfl ?_
        refine o_move rfl ?_
        refine o_faddr rfl rfl fld96_1 ?_
        refine o_idxA rfl ty46 rfl rfl (by omega) (by omega) cl3 ?_
        refine o_store1 rfl hbx sh3 (by show Nat.blt (0 + 1 + (k : Int).toNat * 1) 4 = true; rw [Int.toNat_natCast, Nat.mul_one, Nat.blt_eq]; omega) rfl ?_
        refine o_nil ?_
        refine k_gen [(1, .int .i64 k), (2, .box y 0), (3, .box bi 0), (4, .box fi 0), (5, .box (X l ++ e).length 0), (8, .int .i64 (p.a + j))] (X (l ++ part b r k q j) ++ (e ++ [.box [.int .i64 b.thick, .int .i64 (setT q' k (p.a + j)).a, .int .i64 (setT q' k (p.a + j)).b, .int .i64 (setT q' k (p.a + j)).c]])) (.cons rfl (.cons rfl (.cons rfl (.cons rfl (.cons rfl (.cons rfl (.nil rfl))))))) (by
          show (X (l ++ part b r k q j) ++ (e ++ [SB.box _])).set (X l ++ e).length (.box (([U.int .i64 b.thick, .int .i64 q'.a, .int .i64 q'.b, .int .i64 q'.c]).set (0 + 1 + (k : Int).toNat * 1) (.int .i64 (p.a + j)))) = _
          rw [Int.toNat_natCast, Nat.mul_one, Nat.zero_add, setT_set _ _ hk3, ← List.append_assoc, show (X l ++ e).length = (X (l ++ part b r k q j) ++ e).length by simp [hX0, hXj], List.set_append_right _ _ (Nat.le_refl _), Nat.sub_self, ← List.append_assoc]
          rfl) fun fr => ?_
        have hbx2 : (X (l ++ part b r k q j) ++ (e ++ [SB.box [.int .i64 b.thick, .int .i64 (setT q' k (p.a + j)).a, .int .i64 (setT q' k (p.a + j)).b, .int .i64 (setT q' k (p.a + j)).c]]))[(X l ++ e).length]? = some (.box [.int .i64 b.thick, .int .i64 (setT q' k (p.a + j)).a, .int .i64 (setT q' k (p.a + j)).b, .int .i64 (setT q' k (p.a + j)).c]) := by
          rw [← List.append_assoc, show (X l ++ e).length = (X (l ++ part b r k q j) ++ e).length by simp [hX0, hXj]]; exact at_new _ _
        refine k_seq ?_
        refine k_region ?_   -- region 7 disc.go:26
        refine o_load1 rfl rfl (at_pre (h.bf _)) sh118 rfl ?_
        refine o_loadN rfl rfl hbx2 sh96 rfl ?_
        refine o_move rfl ?_
        refine o_add rfl rfl rfl (by unfold I64; omega) ?_
        refine o_callV rfl rfl (ih (k + 1) (setT q' k (p.a + j)) (l ++ part b r k q j) (e ++ [_]) (by omega) hdn hlen (he.snoc (nb_disc _ _))) (.lrefl _) (fun u st1 hM => ?_)
        obtain ⟨rfl, rfl⟩ := hM
        refine o_not rfl rfl ?_
        refine o_nil ?_
        refine k_cond rfl (fun h3 => by cases h3) (fun h3 => ?_)   -- slot 41
        refine k_skip ?_
        refine k_region ?_   -- region 5 disc.go:24
        refine o_move rfl ?_
        refine o_add rfl rfl rfl (by unfold I64; omega) ?_
        refine o_assign rfl ?_
        refine o_nil ?_
        refine ⟨kk - 1, by omega, j + 1, setT q' k (p.a + j), by omega, fun t => by rw [setT_setT, hq'], hdn, ?_, .cons rfl (.cons rfl (.cons rfl (.cons rfl (.cons rfl (.cons ?_ (.nil rfl))))))⟩
        · show X ((l ++ part b r k q j) ++ lvs b r (k + 1) (setT q' k (p.a + j))) ++ _ = _
          rw [part_succ, hq', el, List.append_assoc]
        · show U.int .i64 (p.a + j + 1) = _
          congr 1; omega
      · have h2' : ¬ (p.a + j ≤ p.b) := of_decide_eq_false h2
        have hj : j = widT b k := by unfold widT at hkk ⊢; rw [el, eh] at hkk ⊢; omega
        subst hj
        refine k_exit ?_
        refine k_seq ?_
        refine k_region ?_   -- region 9 disc.go:30
        refine o_assign rfl ?_
        refine o_nil ?_
        refine k_ret ?_
        refine ⟨.inr rfl, _, .cons _ _ _ _ (.tmp 7) .nil, ?_⟩
        have et : (X (l ++ part b r k q (widT b k)) ++ (e ++ [SB.box [.int .i64 b.thick, .int .i64 q'.a, .int .i64 q'.b, .int .i64 q'.c]])).take (X l ++ e).length = X (l ++ part b r k q (widT b k)) ++ e := by
          rw [← List.append_assoc, List.take_left' (by simp [hX0, hXj])]
        refine ⟨_, .refl _, Bd.bool _ _, ?_, ?_, rfl, et⟩
        · show (X l ++ e).length ≤ (X (l ++ part b r k q (widT b k)) ++ (e ++ [SB.box _])).length
          simp [hX0, hXj]
        · show ∀ x ∈ (X (l ++ part b r k q (widT b k)) ++ (e ++ [SB.box _])).take (X l ++ e).length, _
          rw [et, List.length_append, hX0]
          exact h.bd' he _
    · refine ⟨0, q, rfl, fun _ => rfl, hd, ?_, .cons rfl (.cons rfl (.cons rfl (.cons rfl (.cons rfl (.cons ?_ (.nil rfl))))))⟩
      · show X l ++ _ = X (l ++ []) ++ _
        rw [List.append_nil]
      · show U.int .i64 p.a = .int .i64 (p.a + (0 : Nat))
        simp

-- 67 (saron/forge.book).discs params [73] pure False
noncomputable def b70 : Code := (Tryz.f70.body).getD .skip
theorem body70 : bodyOf Tryz.prog 70 = some (4, b70, [.tmp 2]) := by kernel_rfl
theorem pure70 : pureFn Tryz.prog 70 = false := by kernel_rfl
set_option maxHeartbeats 4000000 in
theorem wpc70 (b : Bk) (n : Nat) (st : List SB) : WpC Tryz.prog is orc 70 [.agg (bkN b n)] st fun u st' => u = .fn 88 [] [.box st.length 0] ∧ st' = st ++ [.box (bkN b n)] := by
  refine wpc_of body70 pure70 rfl rfl ?_
  refine k_seq ?_
  refine k_region ?_   -- region 0 disc.go:17
  refine o_box rfl rfl ?_
  refine o_assign rfl ?_
  refine o_nil ?_
  refine k_seq ?_
  refine k_region ?_   -- region 1 disc.go:18
  refine o_func rfl ?_
  refine o_assign rfl ?_
  refine o_nil ?_
  refine k_ret ?_
  refine ⟨.inr rfl, _, .cons _ _ _ _ (.tmp 2) .nil, ?_⟩
  exact ⟨_, .refl _, rfl, rfl⟩

-- 80 (saron/forge.book).discs$1 params [128] pure False
noncomputable def b88 : Code := (Tryz.f88.body).getD .skip
theorem body88 : bodyOf Tryz.prog 88 = some (11, b88, []) := by kernel_rfl
theorem pure88 : pureFn Tryz.prog 88 = false := by kernel_rfl
/-- the boxes ahead of the loop, the loop, and what 80 makes -/
structure Seen0 (b : Bk) (n m bi : Nat) (lp : Lp) (Z : List Tri → List SB) : Prop where
  len : ∀ l, (Z l).length = m
  bd : ∀ l, ∀ x ∈ Z l, BdS m x
  bb : ∀ l, (Z l)[bi]? = some (.box (bkN b n))
  lt : bi < m
abbrev X80 (m bi : Nat) (lp : Lp) (Z : List Tri → List SB) (l : List Tri) : List SB := Z l ++ [.loop .ready lp, .box [.yld m], .box [.fn 89 [] [.box (m + 1) 0, .box bi 0, .box (m + 2) 0]]]
theorem Seen0.seen {b : Bk} {n m bi : Nat} {lp : Lp} {Z : List Tri → List SB} (h : Seen0 b n m bi lp Z) (hlp : ∀ i, Bd m (lp.fr i)) (own : ∀ i, NoOwn (lp.fr i)) (ps : lp.ps = [7])
    (run : ∀ (is : FuncId → Bool) (orc : Known), Off is → ∀ l q e, DOk b.thick q → l.length < 8000 → Ext e → WpY Tryz.prog is orc m lp [discU b.thick q] (X80 m bi lp Z l ++ e) fun u st' => u = .bool true ∧ ∃ e', Ext e' ∧ st' = X80 m bi lp Z (l ++ [q]) ++ (e ++ e')) :
    Seen b n (m + 3) (m + 1) bi (m + 2) m lp (X80 m bi lp Z) := by
  refine ⟨fun l => by simp [h.len], fun l x hx => ?_, fun l => ?_, fun l => at_pre (h.bb l), fun l => ?_, fun l => ?_, own, ps, run⟩
  · rcases List.mem_append.1 hx with hx | hx
    · exact BdS.mono (h.bd l x hx) (by omega)
    · simp only [List.mem_cons, List.not_mem_nil, or_false] at hx
      have := h.lt
      rcases hx with rfl | rfl | rfl
      · exact fun i => Bd.mono (hlp i) (by omega)
      · intro c hc
        rcases List.mem_singleton.1 hc with rfl; exact Bd.yld (by omega)
      · intro c hc
        rcases List.mem_singleton.1 hc with rfl
        refine Bd.fn (fun u hu => by cases hu) fun u hu => ?_
        simp only [List.mem_cons, List.not_mem_nil, or_false] at hu
        rcases hu with rfl | rfl | rfl <;> exact Bd.box (by omega)
  · show (Z l ++ _)[m + 1]? = _
    rw [List.getElem?_append_right (by rw [h.len]; omega), h.len]; simp
  · show (Z l ++ _)[m + 2]? = _
    rw [List.getElem?_append_right (by rw [h.len]; omega), h.len]; simp
  · show (Z l ++ _)[m]? = _
    rw [List.getElem?_append_right (by rw [h.len]; omega), h.len]; simp
def zeroTri : Tri := ⟨0, 0, 0⟩
set_option maxHeartbeats 4000000 in
theorem wpc88 (hi : Off is) {b : Bk} (hb : Ok b) {n m bi : Nat} {lp : Lp} {Z : List Tri → List SB} (h : Seen0 b n m bi lp Z) (hs : Seen b n (m + 3) (m + 1) bi (m + 2) m lp (X80 m bi lp Z)) (hlp : ∀ i, Bd m (lp.fr i)) :
    WpC Tryz.prog is orc 88 [.yld m, .box bi 0] (Z [] ++ [.loop .ready lp]) fun _ st' => st' = Z (lvs b 3 0 zeroTri) ++ [.loop .ready lp] := by
  have h0 := h.len []
  have h1 := h.len (lvs b 3 0 zeroTri)
  refine wpc_cut body88 pure88 rfl rfl ?_
  refine k_seq ?_
  refine k_region ?_   -- region 0 disc.go:18
  refine o_box rfl rfl ?_
  refine o_nil ?_
  refine k_gen [(1, .box bi 0), (2, .box (m + 1) 0)] (Z [] ++ [.loop .ready lp, .box [.yld m]]) (.cons rfl (.cons (by show U.box (Z [] ++ [SB.loop .ready lp]).length 0 = _; simp [h0]) (.nil rfl))) (by show (Z [] ++ [SB.loop .ready lp]) ++ [_] = _; rw [List.append_assoc]; rfl) fun fr => ?_
  refine k_seq ?_
  refine k_region ?_   -- region 1 disc.go:19
  refine o_alloc rfl ze118 ?_
  refine o_nil ?_
  refine k_gen [(1, .box bi 0), (2, .box (m + 1) 0), (3, .box (m + 2) 0)] ((Z [] ++ [.loop .ready lp, .box [.yld m]]) ++ [.box [.nilf]]) (.cons rfl (.cons rfl (.cons (by show U.box (Z [] ++ [SB.loop .ready lp, .box [.yld m]]).length 0 = _; simp [h0]) (.nil rfl)))) rfl fun fr => ?_
  have e2 : (Z [] ++ [SB.loop .ready lp, .box [.yld m]]).length = m + 2 := by simp [h0]
  refine k_seq ?_
  refine k_region ?_   -- region 2 disc.go:20
  refine o_func rfl ?_
  refine o_store1 rfl (cs := [.nilf]) (by show ((Z [] ++ [SB.loop .ready lp, .box [.yld m]]) ++ [_])[m + 2]? = _; rw [← e2]; exact at_new _ _) sh118 rfl rfl ?_
  refine o_nil ?_
  refine k_gen [(1, .box bi 0), (3, .box (m + 2) 0)] (X80 m bi lp Z [] ++ []) (.cons rfl (.cons rfl (.nil rfl))) (by
    show ((Z [] ++ [SB.loop .ready lp, .box [.yld m]]) ++ [SB.box [.nilf]]).set (m + 2) (SB.box [.fn 89 [] [.box (m + 1) 0, .box bi 0, .box (m + 2) 0]]) = _
    rw [← e2, List.set_append_right _ _ (Nat.le_refl _), Nat.sub_self, List.append_assoc, List.append_nil, e2]; rfl) fun fr => ?_
  refine k_region ?_   -- region 3 disc.go:32
  refine o_load1 rfl rfl (at_pre (hs.bf [])) sh118 rfl ?_
  refine o_faddr rfl rfl fld67_0 ?_
  refine o_faddr rfl rfl fld28_2 ?_
  refine o_load1 rfl rfl (at_pre (hs.bb [])) sh3 rfl ?_
  refine o_build (cs := [.int .i64 b.thick, .int .i64 0, .int .i64 0, .int .i64 0]) rfl ze96 pl96 rfl rfl ?_
  refine o_callV rfl rfl (wpc89 hi hb hs 3 0 zeroTri [] [] rfl ⟨hb.thick, by decide, by decide, by decide⟩ (by decide) .nil) (.lrefl _) (fun u st1 hM => ?_)
  obtain ⟨rfl, rfl⟩ := hM
  refine o_nil ?_
  refine ⟨.inl rfl, _, .nil, ?_⟩
  have et : (X80 m bi lp Z ([] ++ lvs b 3 0 zeroTri) ++ []).take (Z [] ++ [SB.loop .ready lp]).length = Z (lvs b 3 0 zeroTri) ++ [.loop .ready lp] := by
    rw [List.append_nil, List.nil_append, show X80 m bi lp Z (lvs b 3 0 zeroTri) = (Z (lvs b 3 0 zeroTri) ++ [SB.loop .ready lp]) ++ [.box [.yld m], .box [.fn 89 [] [.box (m + 1) 0, .box bi 0, .box (m + 2) 0]]] by rw [List.append_assoc]; rfl, List.take_left' (by simp [h0, h1])]
  refine ⟨_, .refl _, Bd.tup (fun c hc => by cases hc), ?_, ?_, et⟩
  · show (Z [] ++ [SB.loop .ready lp]).length ≤ (X80 m bi lp Z ([] ++ lvs b 3 0 zeroTri) ++ []).length
    simp [h0, h1]
  · show ∀ x ∈ (X80 m bi lp Z ([] ++ lvs b 3 0 zeroTri) ++ []).take (Z [] ++ [SB.loop .ready lp]).length, BdS (Z [] ++ [SB.loop .ready lp]).length x
    rw [et]
    intro x hx
    rw [show (Z [] ++ [SB.loop .ready lp]).length = m + 1 by simp [h0]]
    rcases List.mem_append.1 hx with hx | hx
    · exact BdS.mono (h.bd _ x hx) (by omega)
    · rcases List.mem_singleton.1 hx with rfl
      exact fun i => Bd.mono (hlp i) (by omega)

/-! ### The truths -/
def okD (b : Bk) (q : Tri) : Bool := !(b.looks.any (bel b.thick q))
def accU (th : Int) (l : List Tri) : U := match l with
  | [] => .lst .full 0 []
  | l => .lst .own 4 (l.map (discU th))
theorem accU_cons (th : Int) (q : Tri) (l : List Tri) : accU th (q :: l) = .lst .own 4 ((q :: l).map (discU th)) := rfl
theorem accU_snoc (th : Int) (q : Tri) (l : List Tri) : accU th (l ++ [q]) = .lst .own 4 (l.map (discU th) ++ [discU th q]) := by
  cases l <;> simp [accU]
theorem bd_acc (th : Int) (l : List Tri) (m : Nat) : Bd m (accU th l) := by
  have key : ∀ (k : Kd) (l : List Tri), Bd m (.lst k 4 (l.map (discU th))) := fun k l => Bd.lst fun c hc => by
    obtain ⟨u, h1, h2⟩ := List.mem_flatMap.1 hc
    obtain ⟨q, _, rfl⟩ := List.mem_map.1 h1
    exact (nb_disc th q c h2).bd m
  cases l with
  | nil => exact Bd.lst fun c hc => by cases hc
  | cons q l => exact key _ _
theorem set_end (l : List SB) (x y : SB) : (l ++ [x]).set l.length y = l ++ [y] := by
  rw [List.set_append_right _ _ (Nat.le_refl _), Nat.sub_self]; rfl
noncomputable def b63 : Code := (Tryz.f63.body).getD .skip
theorem body63 : bodyOf Tryz.prog 63 = some (20, b63, [.tmp 2]) := by kernel_rfl
theorem pure63 : pureFn Tryz.prog 63 = true := by kernel_rfl
noncomputable def rg53 : Code × Code := match b63 with
  | .seq _ (.seq _ (.seq (.seq _ (.block _ (.rangeFunc _ _ a b))) _)) => (a, b)
  | _ => (.skip, .skip)
noncomputable def lp53 : Lp := ⟨fun i => dg (lookU [(1, .box 0 0), (3, .box 1 0), (6, .fn 88 [] [.box 2 0])] i .junk), [7], rg53.1, rg53.2⟩
def Z53 (b : Bk) (n : Nat) (l : List Tri) : List SB := [.box (bkN b n), .box [accU b.thick (l.filter (okD b))], .box (bkN b n)]
set_option maxHeartbeats 4000000 in
theorem yield53 (hi : Off is) {b : Bk} (hb : Ok b) (n : Nat) (l : List Tri) (q : Tri) (e : List SB) (hd : DOk b.thick q) (hl : l.length < 8000) :
    WpY Tryz.prog is orc 3 lp53 [discU b.thick q] (X80 3 2 lp53 (Z53 b n) l ++ e) fun u st' => u = .bool true ∧ ∃ e', Ext e' ∧ st' = X80 3 2 lp53 (Z53 b n) (l ++ [q]) ++ (e ++ e') := by
  show Wp _ _ _ rg53.1 _ _
  have hA : (l.filter (okD b)).length < 8000 := Nat.lt_of_le_of_lt (List.length_filter_le _ _) hl
  have hX : X80 3 2 lp53 (Z53 b n) (l ++ [q]) = [.box (bkN b n), .box [accU b.thick (l.filter (okD b) ++ [q].filter (okD b))], .box (bkN b n), .loop .ready lp53, .box [.yld 3], .box [.fn 89 [] [.box (3 + 1) 0, .box 2 0, .box (3 + 2) 0]]] := by
    show [SB.box (bkN b n), .box [accU b.thick ((l ++ [q]).filter (okD b))], .box (bkN b n), .loop .ready lp53, .box [.yld 3], .box [.fn 89 [] [.box (3 + 1) 0, .box 2 0, .box (3 + 2) 0]]] = _
    rw [List.filter_append]
  rw [hX]
  show Wp _ _ _ _ ⟨_, [], [SB.box (bkN b n), .box [accU b.thick (l.filter (okD b))], .box (bkN b n), .loop .ready lp53, .box [.yld 3], .box [.fn 89 [] [.box (3 + 1) 0, .box 2 0, .box (3 + 2) 0]]] ++ e⟩ _
  generalize l.filter (okD b) = A at hA
  generalize hY : [SB.box (bkN b n), .box [accU b.thick A], .box (bkN b n), .loop .ready lp53, .box [.yld 3], .box [.fn 89 [] [.box (3 + 1) 0, .box 2 0, .box (3 + 2) 0]]] ++ e = Y
  have hlk : ∀ {i x}, ([SB.box (bkN b n), .box [accU b.thick A], .box (bkN b n), .loop .ready lp53, .box [.yld 3], .box [.fn 89 [] [.box (3 + 1) 0, .box 2 0, .box (3 + 2) 0]]])[i]? = some x → Y[i]? = some x := fun h => by rw [← hY]; exact at_pre h
  refine k_region ?_   -- region 3 disc.go:58
  refine o_alloc rfl ze96 ?_
  refine o_storeN rfl (at_new _ _) sh96 rfl rfl rfl rfl rfl ?_
  refine o_nil ?_
  refine ⟨rfl, ?_, ?_⟩
  · show ((Y ++ [SB.box _]).set Y.length (SB.box _))[3]? = _
    rw [set_end]
    exact at_pre (hlk rfl)
  refine k_gen [(1, .box 0 0), (3, .box 1 0), (4, .box Y.length 0)] ([SB.box (bkN b n), .box [accU b.thick A], .box (bkN b n), .loop .busy lp53, .box [.yld 3], .box [.fn 89 [] [.box (3 + 1) 0, .box 2 0, .box (3 + 2) 0]]] ++ (e ++ [.box [.int .i64 b.thick, .int .i64 q.a, .int .i64 q.b, .int .i64 q.c]])) (.cons rfl (.cons rfl (.cons rfl (.nil rfl)))) (by
    show ((Y ++ [SB.box _]).set Y.length (SB.box _)).set 3 (.loop .busy lp53) = _
    rw [set_end, ← hY, List.append_assoc]; rfl) fun fr => ?_
  have hlen : Y.length = 6 + e.length := by rw [← hY]; simp; omega
  have hbx : ∀ P : List SB, P.length = 6 → (P ++ (e ++ [.box [.int .i64 b.thick, .int .i64 q.a, .int .i64 q.b, .int .i64 q.c]]))[Y.length]? = some (.box [.int .i64 b.thick, .int .i64 q.a, .int .i64 q.b, .int .i64 q.c]) := fun P hP => by
    rw [← List.append_assoc, show Y.length = (P ++ e).length by simp [hP, hlen]]; exact at_new _ _
  show Wp _ _ _ rg53.2 _ _
  refine k_block ?_
  refine k_seq ?_
  refine k_region ?_   -- region 4 disc.go:59
  refine o_faddr rfl rfl fld67_0 ?_
  refine o_faddr rfl rfl fld28_10 ?_
  refine o_load1 rfl rfl rfl sh26 rfl ?_
  refine o_loadN rfl rfl (hbx _ rfl) sh96 rfl ?_
  refine o_func rfl ?_
  refine o_call rfl (ret82 hi hd b.looks (fun p hp => by have := hb.looks p hp; exact ⟨by omega, by omega, by omega⟩) (by have := hb.nk; omega)) (.lrefl _) ?_
  refine o_not rfl rfl ?_
  refine o_nil ?_
  refine k_cond rfl (fun h1 => ?_) (fun h1 => ?_)   -- slot 14
  · have hok : okD b q = true := h1
    have hq : [q].filter (okD b) = [q] := by simp [hok]
    rw [hq]
    refine k_region ?_   -- region 5 disc.go:60
    cases A with
    | nil =>
      refine o_load1 rfl rfl rfl sh65 rfl ?_
      refine o_loadN rfl rfl (hbx _ rfl) sh96 rfl ?_
      refine o_lit (es := [discU b.thick q]) rfl ty65 ze96 cl96 rfl rfl rfl rfl rfl rfl rfl rfl ?_
      refine o_appendF rfl ap65_65 rfl rfl (by simp) (by simp) (by simp [flatU, cellsU, oneU]) (by simp) ?_
      refine o_store1 rfl rfl sh65 rfl rfl ?_
      refine o_nil ?_
      exact ⟨rfl, rfl, [_], Ext.snoc (l := []) .nil (nb_disc _ _), rfl⟩
    | cons p A =>
      refine o_load1 rfl rfl rfl sh65 rfl ?_
      refine o_loadN rfl rfl (hbx _ rfl) sh96 rfl ?_
      refine o_lit (es := [discU b.thick q]) rfl ty65 ze96 cl96 rfl rfl rfl rfl rfl rfl rfl rfl ?_
      refine o_appendC 1 0 rfl ap65_65 rfl rfl rfl rfl (by simp) (by simp) (by simp [flatU, cellsU, oneU]) (by simp at hA ⊢; omega) ?_
      refine o_store1 rfl rfl sh65 rfl rfl ?_
      refine o_nil ?_
      rw [accU_snoc]
      exact ⟨rfl, rfl, [_], Ext.snoc (l := []) .nil (nb_disc _ _), rfl⟩
  · have hok : okD b q = false := h1
    have hq : [q].filter (okD b) = [] := by simp [hok]
    rw [hq, List.append_nil]
    refine k_skip ?_
    exact ⟨rfl, rfl, [_], Ext.snoc (l := []) .nil (nb_disc _ _), rfl⟩
theorem lookU_all {p : U → Prop} {l : List (Nat × U)} {d : U} (h : ∀ x ∈ l, p x.2) (hd : p d) (i : Nat) : p (lookU l i d) := by
  induction l with
  | nil => exact hd
  | cons x l ih =>
    obtain ⟨j, u⟩ := x
    show p (Vam.cond (Nat.beq i j) u (lookU l i d))
    cases Nat.beq i j with
    | true => exact h _ List.mem_cons_self
    | false => exact ih fun y hy => h y (List.mem_cons_of_mem _ hy)
theorem bd_bkN (b : Bk) (n m : Nat) : ∀ c ∈ bkN b n, Bd m c := by
  intro c hc
  simp only [List.mem_cons, List.not_mem_nil, or_false] at hc
  rcases hc with rfl | rfl | rfl | rfl | rfl | rfl | rfl | rfl | rfl | rfl | rfl | rfl | rfl | rfl | rfl | rfl | rfl | rfl | rfl <;> first | exact Bd.int _ _ _ | exact (dat_tris _ _ (fun h => by cases h) 0).bd _ | exact (dat_twos _ _ (fun h => by cases h) 0).bd _ | exact Bd.lst fun c hc => by cases hc
theorem lp53_bd (i : Nat) : Bd 3 (lp53.fr i) := by
  refine lookU_all (p := fun u => Bd 3 (dg u)) ?_ (Bd.junk _) i
  intro x hx
  simp only [List.mem_cons, List.not_mem_nil, or_false] at hx
  rcases hx with rfl | rfl | rfl
  · exact Bd.box (by omega)
  · exact Bd.box (by omega)
  · refine Bd.fn (fun u hu => by cases hu) fun u hu => ?_
    rcases List.mem_singleton.1 hu with rfl; exact Bd.box (by omega)
theorem seen0_53 (b : Bk) (n : Nat) : Seen0 b n 3 2 lp53 (Z53 b n) := by
  refine ⟨fun l => rfl, fun l x hx => ?_, fun l => rfl, by omega⟩
  simp only [Z53, List.mem_cons, List.not_mem_nil, or_false] at hx
  rcases hx with rfl | rfl | rfl
  · exact bd_bkN b n 3
  · intro c hc
    rcases List.mem_singleton.1 hc with rfl; exact bd_acc _ _ _
  · exact bd_bkN b n 3
def trs (b : Bk) : List Tri := (lvs b 3 0 zeroTri).filter (okD b)
abbrev trU (th : Int) (l : List Tri) : U := dg (accU th l)
theorem trU_cons (th : Int) (q : Tri) (l : List Tri) : trU th (q :: l) = .lst .ro 4 ((q :: l).map (discU th)) := rfl
theorem dat_discs (th : Int) (l : List Tri) (kd : Kd) (hk : kd ≠ .own) (k : Nat) : Dat (k + 2) (.lst kd 4 (l.map (discU th))) := .lst _ _ _ _ hk fun c hc => by
  obtain ⟨u, h1, h2⟩ := List.mem_flatMap.1 hc
  obtain ⟨q, _, rfl⟩ := List.mem_map.1 h1
  have h2 : c ∈ [U.int .i64 th, .int .i64 q.a, .int .i64 q.b, .int .i64 q.c] := h2
  simp only [List.mem_cons, List.not_mem_nil, or_false] at h2
  rcases h2 with rfl | rfl | rfl | rfl <;> exact .int _ _ _
theorem dat_tr (th : Int) (l : List Tri) (k : Nat) : Dat (k + 2) (trU th l) := by
  cases l with
  | nil => exact .lst _ _ _ _ (fun h => by cases h) (fun c hc => by cases hc)
  | cons q l => exact dat_discs th _ .ro (fun h => by cases h) k
set_option maxHeartbeats 4000000 in
theorem ret63 (hi : Off is) {b : Bk} (hb : Ok b) : RetP Tryz.prog is orc 63 [bkF b] (trU b.thick (trs b)) := by
  refine ret_of body63 pure63 (hi 63 (by decide)) rfl rfl (dat_l1 (dat_bkF b 5)) (.inl (dat_tr _ _ 6)) ?_
  refine k_seq ?_
  refine k_region ?_   -- region 0 disc.go:56
  refine o_box rfl rfl ?_
  refine o_assign rfl ?_
  refine o_nil ?_
  refine k_seq ?_
  refine k_region ?_   -- region 1 disc.go:57
  refine o_alloc rfl ze65 ?_
  refine o_nil ?_
  refine k_seq ?_
  refine k_seq ?_
  refine k_region ?_   -- region 2 disc.go:58
  refine o_loadN rfl rfl rfl sh67 rfl ?_
  refine o_callW rfl (wpc70 b b.lots.length _) (.lrefl _) (fun u st1 hM => ?_)
  obtain ⟨rfl, rfl⟩ := hM
  refine o_nil ?_
  refine k_block ?_
  refine k_forget [(1, .box 0 0), (3, .box 1 0), (6, .fn 88 [] [.box 2 0])] (Z53 b b.lots.length []) (.cons rfl (.cons rfl (.cons rfl (.nil rfl)))) rfl ?_
  have h0 := seen0_53 b b.lots.length
  have hs := h0.seen lp53_bd (fun i => dg_noOwn _) rfl fun is orc hi l q e hd hl _ => yield53 hi hb b.lots.length l q e hd hl
  refine k_range (g := 88) rfl ((wpc88 hi hb h0 hs lp53_bd).mono fun _ st' hst => ⟨.ready, ?_, ?_, ?_⟩)
  · rw [hst]; rfl
  · rw [hst]
    exact h0.bd _
  · rw [hst]
    refine k_gen [(3, .box 1 0)] (Z53 b b.lots.length (lvs b 3 0 zeroTri)) (.cons rfl (.nil rfl)) rfl fun fr => ?_
    refine k_seq ?_
    refine k_region ?_   -- region 6 disc.go:63
    refine o_load1 rfl rfl rfl sh65 rfl ?_
    refine o_assign rfl ?_
    refine o_nil ?_
    refine k_ret ?_
    refine ⟨.inr rfl, _, .cons _ _ _ _ (.tmp 2) .nil, ?_⟩
    exact .refl _

theorem fld67_2 : fieldOf Tryz.prog 67 2 = some (18, 65) := by kernel_rfl
abbrev bkTc (b : Bk) (T : List Tri) : List U := [.lst .ro 3 (trisU b.lots), .int .i64 b.tlo, .int .i64 b.thi, .int .i64 b.thick, .int .i64 b.crack, .int .i64 b.glo, .int .i64 b.ghi, .lst .ro 2 (twosU b.thins), .int .i64 b.hot, .int .i64 b.least, .int .i64 b.clo, .int .i64 b.chi, .int .i64 b.coal, .lst .ro 3 (trisU b.looks), .int .i64 (stk b b.lots.length 0), .int .i64 (stk b b.lots.length 1), .int .i64 (stk b b.lots.length 2), .int .i64 (stk b b.lots.length 3), trU b.thick T]
abbrev bkT (b : Bk) (T : List Tri) : U := .agg (bkTc b T)
theorem set_tidy (P e : List SB) (x y : SB) : ((P ++ e) ++ [x]).set (P ++ e).length y = P ++ (e ++ [y]) := by rw [set_end, List.append_assoc]
theorem dat_bkT (b : Bk) (T : List Tri) (n : Nat) : Dat (n + 3) (bkT b T) := .agg _ _ fun c hc => by
  simp only [List.mem_cons, List.not_mem_nil, or_false] at hc
  rcases hc with rfl | rfl | rfl | rfl | rfl | rfl | rfl | rfl | rfl | rfl | rfl | rfl | rfl | rfl | rfl | rfl | rfl | rfl | rfl <;> first | exact .int _ _ _ | exact dat_tris _ _ (fun h => by cases h) _ | exact dat_twos _ _ (fun h => by cases h) _ | exact dat_tr _ _ _
abbrev zbkC : List U := [.lst .full 0 [], .int .i64 0, .int .i64 0, .int .i64 0, .int .i64 0, .int .i64 0, .int .i64 0, .lst .full 0 [], .int .i64 0, .int .i64 0, .int .i64 0, .int .i64 0, .int .i64 0, .lst .full 0 [], .int .i64 0, .int .i64 0, .int .i64 0, .int .i64 0, .lst .full 0 []]
abbrev zbk : U := .agg zbkC
theorem dat_zbk (n : Nat) : Dat (n + 3) zbk := .agg _ _ fun c hc => by
  simp only [List.mem_cons, List.not_mem_nil, or_false] at hc
  rcases hc with rfl | rfl | rfl | rfl | rfl | rfl | rfl | rfl | rfl | rfl | rfl | rfl | rfl | rfl | rfl | rfl | rfl | rfl | rfl <;> first | exact .int _ _ _ | exact .lst _ _ _ _ (fun h => by cases h) (fun c hc => by cases hc)
theorem lvs_ok {b : Bk} (hb : Ok b) : ∀ (r k : Nat) (q : Tri), DOk b.thick q → ∀ d ∈ lvs b r k q, DOk b.thick d := by
  intro r
  induction r with
  | zero => intro k q hq d hd; rcases List.mem_singleton.1 hd with rfl; exact hq
  | succ r ih =>
    intro k q hq d hd
    obtain ⟨j, hj, hd⟩ := List.mem_flatMap.1 hd
    have hw := wid_le hb k
    have hj := List.mem_range.1 hj
    unfold widT at hj
    exact ih _ _ (setT_ok hq k (by omega)) d hd
theorem trs_ok {b : Bk} (hb : Ok b) : ∀ d ∈ trs b, DOk b.thick d := fun d hd => lvs_ok hb 3 0 zeroTri ⟨hb.thick, by decide, by decide, by decide⟩ d (List.mem_filter.1 hd).1
theorem trs_len {b : Bk} (hb : Ok b) : (trs b).length ≤ 8000 := Nat.le_trans (List.length_filter_le _ _) (lvs_len hb 3 0 zeroTri)
def mm (th n : Int) (s : Int × Int) (d : Tri) : Int × Int := (min s.1 (aft th d n), max s.2 (aft th d n))
def thI (th : Int) (T : List Tri) (n : Int) (i : Nat) : Int × Int := (T.take i).foldl (mm th n) (aft th (T.headD zeroTri) n, aft th (T.headD zeroTri) n)
theorem thI_succ {th : Int} {T : List Tri} {n : Int} {i : Nat} {d : Tri} (h : T[i]? = some d) : thI th T n (i + 1) = mm th n (thI th T n i) d := by
  unfold thI
  rw [List.take_add_one, h, List.foldl_append]; rfl
def lowT (th : Int) (T : List Tri) (n : Int) : Int := (thI th T n T.length).1
def highT (th : Int) (T : List Tri) (n : Int) : Int := (thI th T n T.length).2
def wi (b : Bk) (x : Int) : Bool := decide (b.glo ≤ x) && decide (x ≤ b.ghi)
def doneT (b : Bk) (T : List Tri) (n : Int) : Bool := (wi b (lowT b.thick T n) && wi b (highT b.thick T n)) && decide (b.crack ≤ lowT b.thick T n)
def soundT (b : Bk) (T : List Tri) (n : Int) : Bool := decide (b.crack ≤ lowT b.thick T n)
def fstN (p : Nat → Bool) : Nat → Nat → Option Nat
  | 0, _ => none
  | k + 1, n => if p n then some n else fstN p k (n + 1)
def lstN (p : Nat → Bool) : Nat → Option Nat
  | 0 => none
  | n + 1 => if p n then some n else lstN p n
def optI (o : Option Nat) : Int := match o with | some n => n | none => 0
def optE (o : Option Nat) : Int := match o with | some _ => 0 | none => 4

-- 35 saron/forge.askTruths params [28, 4] pure True
noncomputable def b36 : Code := (Tryz.f36.body).getD .skip
theorem body36 : bodyOf Tryz.prog 36 = some (27, b36, [.cell 4 67, .tmp 5]) := by kernel_rfl
theorem pure36 : pureFn Tryz.prog 36 = true := by kernel_rfl
set_option maxHeartbeats 4000000 in
theorem ret36 (hi : Off is) {b : Bk} (hb : Ok b) {q : Tri} {l : List Tri} (hT : trs b = q :: l) : RetP Tryz.prog is orc 36 [b.u, .bool true] (.tup [bkT b (q :: l), .int .i64 0]) := by
  refine ret_of body36 pure36 (hi 36 (by decide)) rfl rfl (dat_l2 (dat_bk b 5) (.bool _ _)) (.inr ⟨_, rfl, dat_l2 (dat_bkT b _ 4) (.int _ _ _)⟩) ?_
  have h53 := ret63 (orc := orc) hi hb
  rw [hT] at h53
  refine k_seq (k_region ?_)
  refine o_box rfl rfl ?_
  refine o_alloc rfl ze67 ?_
  refine o_assign rfl ?_
  refine o_nil ?_
  refine k_seq (k_region ?_)
  refine o_loadN rfl rfl rfl sh28 rfl ?_
  refine o_move rfl ?_
  refine o_call rfl (ret43 hi hb) (.lrefl _) ?_
  refine o_move rfl ?_
  refine o_extract rfl rfl rfl ?_
  refine o_extract rfl rfl rfl ?_
  refine o_alloc rfl ze67 ?_
  refine o_storeN rfl rfl sh67 rfl rfl rfl rfl rfl ?_
  refine o_assign rfl ?_
  refine o_nil ?_
  refine k_seq ?_
  refine k_seq (k_region ?_)
  refine o_move rfl ?_
  refine o_neq rfl rfl rfl ?_
  refine o_nil ?_
  refine k_cF rfl (decide_eq_false (fun h => h rfl)) ?_
  refine k_skip ?_
  refine k_seq (k_region ?_)
  refine o_loadN rfl rfl rfl sh67 rfl ?_
  refine o_call rfl (h53) (.lrefl _) ?_
  refine o_faddr rfl rfl fld67_2 ?_
  refine o_store1 rfl rfl sh65 rfl rfl ?_
  refine o_nil ?_
  refine k_seq ?_
  refine k_seq (k_region ?_)
  refine o_faddr rfl rfl fld67_2 ?_
  refine o_load1 rfl rfl rfl sh65 rfl ?_
  refine o_len rfl ty65 rfl rfl ?_
  refine o_eql rfl rfl rfl ?_
  refine o_nil ?_
  refine k_cF rfl (decide_eq_false (by intro h; cases h)) ?_
  refine k_skip ?_
  refine k_seq (k_region ?_)
  refine o_loadN rfl rfl rfl sh67 rfl ?_
  refine o_storeN rfl rfl sh67 rfl rfl rfl rfl rfl ?_
  refine o_assign rfl ?_
  refine o_nil ?_
  refine k_ret ?_
  refine ⟨.inr rfl, _, .cons _ _ _ _ (.cellN 4 67 _ _ _ _ rfl rfl sh67 rfl) (.cons _ _ _ _ (.tmp 5) .nil), ?_⟩
  exact .refl _

-- 37 (saron/forge.book).thick params [73, 3] pure True
noncomputable def b41 : Code := (Tryz.f41.body).getD .skip
theorem body41 : bodyOf Tryz.prog 41 = some (37, b41, [.cell 4 24]) := by kernel_rfl
theorem pure41 : pureFn Tryz.prog 41 = true := by kernel_rfl
set_option maxHeartbeats 4000000 in
theorem ret41 (hi : Off is) {b : Bk} {q : Tri} {l : List Tri} (hd : ∀ d ∈ q :: l, DOk b.thick d) (hl : (q :: l).length ≤ 8000) (n : Int) (hx : 0 ≤ n ∧ n ≤ 301) : RetP Tryz.prog is orc 41 [bkT b (q :: l), .int .i64 n] (spanU (lowT b.thick (q :: l) n) (highT b.thick (q :: l) n)) := by
  refine ret_of body41 pure41 (hi 41 (by decide)) rfl rfl (dat_l2 (dat_bkT b _ 5) (.int _ _ _)) (.inl (dat_span _ _ _)) ?_
  refine k_seq (k_region ?_)
  refine o_box rfl rfl ?_
  refine o_alloc rfl ze24 ?_
  refine o_nil ?_
  refine k_seq (k_region ?_)
  refine o_faddr rfl rfl fld67_2 ?_
  refine o_load1 rfl rfl rfl sh65 rfl ?_
  refine o_idx (u := discU b.thick q) rfl ty65 rfl rfl (Int.le_refl 0) rfl cl96 ?_
  refine o_loadRN rfl rfl sh96 rfl ?_
  refine o_move rfl ?_
  refine o_call rfl (ret67 hi (hd q List.mem_cons_self) n (by have := hx; omega)) (.lrefl _) ?_
  refine o_call rfl (ret66 hi _) (.lrefl _) ?_
  refine o_alloc rfl ze24 ?_
  refine o_storeN rfl rfl sh24 rfl rfl rfl rfl rfl ?_
  refine o_nil ?_
  refine k_seq ?_
  refine k_seq (k_region ?_)
  refine o_faddr rfl rfl fld67_2 ?_
  refine o_load1 rfl rfl rfl sh65 rfl ?_
  refine o_len rfl ty65 rfl rfl ?_
  refine o_move rfl ?_
  refine o_nil ?_
  refine k_block ?_

  refine k_loop (fun k s => ∃ (i : Nat) (e : List SB), k + i = (q :: l).length ∧ s.st = [.box (bkTc b (q :: l)), .box [.int .i64 0, .int .i64 0], .box [.int .i64 (thI b.thick (q :: l) n i).1, .int .i64 (thI b.thick (q :: l) n i).2]] ++ e ∧ Holds s [(1, .int .i64 n), (4, .box 1 0), (5, .box 2 0), (17, .lst .ro 4 ((q :: l).map (discU b.thick))), (18, .int .i64 ((q :: l).map (discU b.thick)).length), (19, .int .i64 i)]) (fun k s hI => ?_) (q :: l).length _ ?_
  · obtain ⟨i, e, hk, hst, hs⟩ := hI
    generalize hY : [SB.box (bkTc b (q :: l)), .box [.int .i64 0, .int .i64 0], .box [.int .i64 (thI b.thick (q :: l) n i).1, .int .i64 (thI b.thick (q :: l) n i).2]] ++ e = Y at hst
    refine k_gen _ _ hs hst fun fr => ?_
    refine k_seq (k_region ?_)
    refine o_lss rfl rfl rfl ?_
    refine o_nil ?_
    refine k_seq ?_
    refine k_cond rfl (fun h1 => ?_) (fun h1 => ?_)
    · have h3' : i < (q :: l).length := by
        have := of_decide_eq_true h1
        simp only [List.length_map] at this; omega
      obtain ⟨d, hq⟩ : ∃ d, (q :: l)[i]? = some d := ⟨(q :: l)[i], List.getElem?_eq_getElem h3'⟩
      have hdd := hd d (List.mem_of_getElem? hq)
      refine k_skip ?_
      refine k_seq ?_
      refine k_block ?_
      refine k_seq (k_region ?_)
      refine o_idx (u := discU b.thick d) rfl ty65 rfl rfl (Int.natCast_nonneg i) (by rw [Int.toNat_natCast, List.getElem?_map, hq]; rfl) cl96 ?_
      refine o_loadRN rfl rfl sh96 rfl ?_
      refine o_alloc rfl ze96 ?_
      refine o_storeN rfl (at_new _ _) sh96 rfl rfl rfl rfl rfl ?_
      refine o_nil ?_
      refine k_gen [(1, .int .i64 n), (4, .box 1 0), (5, .box 2 0), (7, .box (3 + e.length) 0), (17, .lst .ro 4 ((q :: l).map (discU b.thick))), (18, .int .i64 ((q :: l).map (discU b.thick)).length), (19, .int .i64 i)] ([.box (bkTc b (q :: l)), .box [.int .i64 0, .int .i64 0], .box [.int .i64 (thI b.thick (q :: l) n i).1, .int .i64 (thI b.thick (q :: l) n i).2]] ++ (e ++ [.box [.int .i64 b.thick, .int .i64 d.a, .int .i64 d.b, .int .i64 d.c]])) (.cons rfl (.cons rfl (.cons rfl (.cons (by show U.box Y.length 0 = _; rw [← hY]; simp; omega) (.cons rfl (.cons rfl (.cons rfl (.nil rfl)))))))) (by show (Y ++ [SB.box _]).set Y.length (SB.box _) = _; rw [set_end, ← hY, List.append_assoc]; rfl) fun fr => ?_
      have hbx : ∀ x y z : SB, ([x, y, z] ++ (e ++ [SB.box [.int .i64 b.thick, .int .i64 d.a, .int .i64 d.b, .int .i64 d.c]]))[3 + e.length]? = some (.box [.int .i64 b.thick, .int .i64 d.a, .int .i64 d.b, .int .i64 d.c]) := fun x y z => by
        rw [← List.append_assoc, show 3 + e.length = ([x, y, z] ++ e).length by simp; omega]; exact at_new _ _
      refine k_seq (k_region ?_)
      refine o_loadN rfl rfl (hbx _ _ _) sh96 rfl ?_
      refine o_move rfl ?_
      refine o_call rfl (ret67 hi hdd n (by have := hx; omega)) (.lrefl _) ?_
      refine o_assign rfl ?_
      refine o_nil ?_
      refine k_region ?_
      refine o_faddr rfl rfl fld24_0 ?_
      refine o_load1 rfl rfl rfl sh3 rfl ?_
      refine o_move rfl ?_
      refine o_min rfl rfl rfl ?_
      refine o_faddr rfl rfl fld24_1 ?_
      refine o_load1 rfl rfl rfl sh3 rfl ?_
      refine o_move rfl ?_
      refine o_max rfl rfl rfl ?_
      refine o_build rfl ze24 pl24 rfl rfl ?_
      refine o_storeN rfl rfl sh24 rfl rfl rfl rfl rfl ?_
      refine o_nil ?_
      refine k_region ?_
      refine o_add rfl rfl rfl (by unfold I64; omega) ?_
      refine o_move rfl ?_
      refine o_nil ?_
      exact ⟨k - 1, by omega, i + 1, e ++ [_], by omega, by rw [thI_succ hq]; rfl, .cons rfl (.cons rfl (.cons rfl (.cons rfl (.cons rfl (.cons rfl (.nil rfl))))))⟩
    · subst hY
      refine k_exit ?_
      refine k_seq (k_region ?_)
      refine o_loadN rfl rfl rfl sh24 rfl ?_
      refine o_storeN rfl rfl sh24 rfl rfl rfl rfl rfl ?_
      refine o_nil ?_
      refine k_ret ?_
      refine ⟨.inr rfl, _, .cons _ _ _ _ (.cellN 4 24 _ _ _ _ rfl rfl sh24 rfl) .nil, ?_⟩
      have h3' : i = (q :: l).length := by
        have := of_decide_eq_false h1
        simp only [List.length_map] at this; omega
      subst h3'
      exact .refl _
  · exact ⟨0, [], rfl, rfl, .cons rfl (.cons rfl (.cons rfl (.cons rfl (.cons rfl (.cons rfl (.nil rfl))))))⟩

-- 40 (saron/forge.book).isDone params [73, 3] pure True
noncomputable def b54 : Code := (Tryz.f54.body).getD .skip
theorem body54 : bodyOf Tryz.prog 54 = some (31, b54, [.tmp 4]) := by kernel_rfl
theorem pure54 : pureFn Tryz.prog 54 = true := by kernel_rfl
set_option maxHeartbeats 4000000 in
theorem ret54 (hi : Off is) {b : Bk} {q : Tri} {l : List Tri} (hd : ∀ d ∈ q :: l, DOk b.thick d) (hl : (q :: l).length ≤ 8000) (n : Int) (hx : 0 ≤ n ∧ n ≤ 301) : RetP Tryz.prog is orc 54 [bkT b (q :: l), .int .i64 n] (.bool (doneT b (q :: l) n)) := by
  refine ret_of body54 pure54 (hi 54 (by decide)) rfl rfl (dat_l2 (dat_bkT b _ 5) (.int _ _ _)) (.inl (.bool _ _)) ?_
  refine k_seq (k_region ?_)
  refine o_box rfl rfl ?_
  refine o_assign rfl ?_
  refine o_nil ?_
  refine k_seq (k_region ?_)
  refine o_loadN rfl rfl rfl sh67 rfl ?_
  refine o_move rfl ?_
  refine o_call rfl (ret41 hi hd hl n hx) (.lrefl _) ?_
  refine o_alloc rfl ze24 ?_
  refine o_storeN rfl rfl sh24 rfl rfl rfl rfl rfl ?_
  refine o_nil ?_
  refine k_seq (k_region ?_)
  refine o_faddr rfl rfl fld67_0 ?_
  refine o_faddr rfl rfl fld28_4 ?_
  refine o_loadN rfl rfl rfl sh24 rfl ?_
  refine o_faddr rfl rfl fld24_0 ?_
  refine o_load1 rfl rfl rfl sh3 rfl ?_
  refine o_call rfl (ret37 hi _ _ _) (.lrefl _) ?_
  refine o_move rfl ?_
  refine o_guard rfl rfl rfl rfl (fun h1 => ?_) (fun h1 => ?_)
  · refine o_faddr rfl rfl fld67_0 ?_
    refine o_gD rfl rfl rfl rfl h1 ?_
    refine o_faddr rfl rfl fld28_4 ?_
    refine o_gD rfl rfl rfl rfl h1 ?_
    refine o_loadN rfl rfl rfl sh24 rfl ?_
    refine o_gD rfl rfl rfl rfl h1 ?_
    refine o_faddr rfl rfl fld24_1 ?_
    refine o_gD rfl rfl rfl rfl h1 ?_
    refine o_load1 rfl rfl rfl sh3 rfl ?_
    refine o_gD rfl rfl rfl rfl h1 ?_
    refine o_call rfl (ret37 hi _ _ _) (.lrefl _) ?_
    refine o_pickT rfl rfl h1 ?_
    refine o_move rfl ?_
    refine o_guard rfl rfl rfl rfl (fun h2 => ?_) (fun h2 => ?_)
    · refine o_faddr rfl rfl fld24_0 ?_
      refine o_gD rfl rfl rfl rfl h2 ?_
      refine o_load1 rfl rfl rfl sh3 rfl ?_
      refine o_gD rfl rfl rfl rfl h2 ?_
      refine o_faddr rfl rfl fld67_0 ?_
      refine o_gD rfl rfl rfl rfl h2 ?_
      refine o_faddr rfl rfl fld28_3 ?_
      refine o_gD rfl rfl rfl rfl h2 ?_
      refine o_load1 rfl rfl rfl sh3 rfl ?_
      refine o_gD rfl rfl rfl rfl h2 ?_
      refine o_geq rfl rfl rfl ?_
      refine o_pickT rfl rfl h2 ?_
      refine o_assign rfl ?_
      refine o_nil ?_
      refine k_ret ?_
      refine ⟨.inr rfl, _, .cons _ _ _ _ (.tmp 4) .nil, ?_⟩
      unfold doneT wi; rw [h1, h2]; exact .refl _
    · refine o_gS rfl rfl rfl rfl h2 ?_
      refine o_gS rfl rfl rfl rfl h2 ?_
      refine o_gS rfl rfl rfl rfl h2 ?_
      refine o_gS rfl rfl rfl rfl h2 ?_
      refine o_gS rfl rfl rfl rfl h2 ?_
      refine o_pickF rfl rfl h2 ?_
      refine o_assign rfl ?_
      refine o_nil ?_
      refine k_ret ?_
      refine ⟨.inr rfl, _, .cons _ _ _ _ (.tmp 4) .nil, ?_⟩
      unfold doneT wi; rw [h1, h2]; exact .refl _
  · refine o_gS rfl rfl rfl rfl h1 ?_
    refine o_gS rfl rfl rfl rfl h1 ?_
    refine o_gS rfl rfl rfl rfl h1 ?_
    refine o_gS rfl rfl rfl rfl h1 ?_
    refine o_gS rfl rfl rfl rfl h1 ?_
    refine o_pickF rfl rfl h1 ?_
    refine o_move rfl ?_
    refine o_gS rfl rfl rfl rfl rfl ?_
    refine o_gS rfl rfl rfl rfl rfl ?_
    refine o_gS rfl rfl rfl rfl rfl ?_
    refine o_gS rfl rfl rfl rfl rfl ?_
    refine o_gS rfl rfl rfl rfl rfl ?_
    refine o_gS rfl rfl rfl rfl rfl ?_
    refine o_pickF rfl rfl rfl ?_
    refine o_assign rfl ?_
    refine o_nil ?_
    refine k_ret ?_
    refine ⟨.inr rfl, _, .cons _ _ _ _ (.tmp 4) .nil, ?_⟩
    unfold doneT wi; rw [h1]; exact .refl _

-- 41 (saron/forge.book).isSound params [73, 3] pure True
noncomputable def b55 : Code := (Tryz.f55.body).getD .skip
theorem body55 : bodyOf Tryz.prog 55 = some (13, b55, [.tmp 4]) := by kernel_rfl
theorem pure55 : pureFn Tryz.prog 55 = true := by kernel_rfl
set_option maxHeartbeats 4000000 in
theorem ret55 (hi : Off is) {b : Bk} {q : Tri} {l : List Tri} (hd : ∀ d ∈ q :: l, DOk b.thick d) (hl : (q :: l).length ≤ 8000) (n : Int) (hx : 0 ≤ n ∧ n ≤ 301) : RetP Tryz.prog is orc 55 [bkT b (q :: l), .int .i64 n] (.bool (soundT b (q :: l) n)) := by
  refine ret_of body55 pure55 (hi 55 (by decide)) rfl rfl (dat_l2 (dat_bkT b _ 5) (.int _ _ _)) (.inl (.bool _ _)) ?_
  refine k_seq (k_region ?_)
  refine o_box rfl rfl ?_
  refine o_assign rfl ?_
  refine o_nil ?_
  refine k_seq ?_
  refine k_draw [.read true, .plain, .read false, .plain, .plain, .plain, .read true, .plain, .plain] (by kernel_rfl) (by kernel_rfl) (by kernel_rfl) ?_
  refine d_load rfl (o_loadN rfl rfl rfl sh67 rfl (o_nil rfl)) ?_
  refine d_plain (o_move rfl (o_nil rfl)) ?_
  refine d_callR rfl (ret41 hi hd hl n hx) (flat_span _ _) (.lrefl _) ?_
  refine d_plain (o_field1 rfl rfl fld24_0 sh3 rfl (o_nil rfl)) ?_
  refine d_plain (o_faddr rfl rfl fld67_0 (o_nil rfl)) ?_
  refine d_plain (o_faddr rfl rfl fld28_3 (o_nil rfl)) ?_
  refine d_load rfl (o_load1 rfl rfl rfl sh3 rfl (o_nil rfl)) ?_
  refine d_plain (o_geq rfl rfl rfl (o_nil rfl)) ?_
  refine d_plain (o_assign rfl (o_nil rfl)) ?_
  refine d_nil ?_
  refine k_ret ?_
  refine ⟨.inr rfl, _, .cons _ _ _ _ (.tmp 4) .nil, ?_⟩
  exact .refl _

-- 13 saron/forge.Thick params [28, 3] pure True
noncomputable def b11 : Code := (Tryz.f11.body).getD .skip
theorem body11 : bodyOf Tryz.prog 11 = some (22, b11, [.cell 4 24, .tmp 5]) := by kernel_rfl
theorem pure11 : pureFn Tryz.prog 11 = true := by kernel_rfl
set_option maxHeartbeats 4000000 in
theorem ret11 (hi : Off is) {b : Bk} (hb : Ok b) {q : Tri} {l : List Tri} (hT : trs b = q :: l) (n : Int) (hn : 0 ≤ n ∧ n ≤ 300) : RetP Tryz.prog is orc 11 [b.u, .int .i64 n] (.tup [spanU (lowT b.thick (q :: l) n) (highT b.thick (q :: l) n), .int .i64 0]) := by
  refine ret_of body11 pure11 (hi 11 (by decide)) rfl rfl (dat_l2 (dat_bk b 5) (.int _ _ _)) (.inr ⟨_, rfl, dat_l2 (dat_span _ _ _) (.int _ _ _)⟩) ?_
  have h36 : RetP Tryz.prog is orc 40 [.int .i64 n] (.bool true) := by
    have := ret40 (orc := orc) hi n
    rwa [show (decide (0 ≤ n) && decide (n ≤ 300)) = true by simp; omega] at this
  have hd : ∀ d ∈ q :: l, DOk b.thick d := by rw [← hT]; exact trs_ok hb
  have hl : (q :: l).length ≤ 8000 := by rw [← hT]; exact trs_len hb
  refine k_seq (k_region ?_)
  refine o_box rfl rfl ?_
  refine o_alloc rfl ze24 ?_
  refine o_assign rfl ?_
  refine o_nil ?_
  refine k_seq ?_
  refine k_draw [.read true, .plain, .read false, .quiet, .plain, .plain, .plain, .pre, .plain, .plain] (by kernel_rfl) (by kernel_rfl) (by kernel_rfl) ?_
  refine d_load rfl (o_loadN rfl rfl rfl sh28 rfl (o_nil rfl)) ?_
  refine d_plain (o_move rfl (o_nil rfl)) ?_
  refine d_callR rfl (h36) (.bool _) (.lrefl _) ?_
  refine d_callQ rfl (ret36 hi hb hT) (.lrefl _) ?_
  refine d_plain (o_move rfl (o_nil rfl)) ?_
  refine d_plain (o_extract rfl rfl rfl (o_nil rfl)) ?_
  refine d_plain (o_extract rfl rfl rfl (o_nil rfl)) ?_
  refine d_pre rfl ze67 ?_
  refine d_plain (o_storeN rfl rfl sh67 rfl rfl rfl rfl rfl (o_nil rfl)) ?_
  refine d_plain (o_assign rfl (o_nil rfl)) ?_
  refine d_nil ?_
  refine k_seq ?_
  refine k_seq (k_region ?_)
  refine o_move rfl ?_
  refine o_neq rfl rfl rfl ?_
  refine o_nil ?_
  refine k_cF rfl (decide_eq_false (fun h => h rfl)) ?_
  refine k_skip ?_
  refine k_seq (k_region ?_)
  refine o_loadN rfl rfl rfl sh67 rfl ?_
  refine o_move rfl ?_
  refine o_call rfl (ret41 hi hd hl n (by omega)) (.lrefl _) ?_
  refine o_storeN rfl rfl sh24 rfl rfl rfl rfl rfl ?_
  refine o_assign rfl ?_
  refine o_nil ?_
  refine k_ret ?_
  refine ⟨.inr rfl, _, .cons _ _ _ _ (.cellN 4 24 _ _ _ _ rfl rfl sh24 rfl) (.cons _ _ _ _ (.tmp 5) .nil), ?_⟩
  exact .refl _

-- 19 saron/forge.Blows params [28] pure True
noncomputable def b16 : Code := (Tryz.f16.body).getD .skip
theorem body16 : bodyOf Tryz.prog 16 = some (23, b16, [.tmp 2, .tmp 3]) := by kernel_rfl
theorem pure16 : pureFn Tryz.prog 16 = true := by kernel_rfl
set_option maxHeartbeats 4000000 in
theorem ret16 (hi : Off is) {b : Bk} (hb : Ok b) {q : Tri} {l : List Tri} (hT : trs b = q :: l) : RetP Tryz.prog is orc 16 [b.u] (.tup [.int .i64 (optI (fstN (fun i => doneT b (q :: l) i) 301 0)), .int .i64 (optE (fstN (fun i => doneT b (q :: l) i) 301 0))]) := by
  refine ret_of body16 pure16 (hi 16 (by decide)) rfl rfl (dat_l1 (dat_bk b 5)) (.inr ⟨_, rfl, dat_l2 (.int _ _ _) (.int _ _ _)⟩) ?_
  have hd : ∀ d ∈ q :: l, DOk b.thick d := by rw [← hT]; exact trs_ok hb
  have hl : (q :: l).length ≤ 8000 := by rw [← hT]; exact trs_len hb
  refine k_seq (k_region ?_)
  refine o_box rfl rfl ?_
  refine o_assign rfl ?_
  refine o_assign rfl ?_
  refine o_nil ?_
  refine k_seq (k_region ?_)
  refine o_loadN rfl rfl rfl sh28 rfl ?_
  refine o_call rfl (ret36 hi hb hT) (.lrefl _) ?_
  refine o_move rfl ?_
  refine o_extract rfl rfl rfl ?_
  refine o_extract rfl rfl rfl ?_
  refine o_alloc rfl ze67 ?_
  refine o_storeN rfl rfl sh67 rfl rfl rfl rfl rfl ?_
  refine o_assign rfl ?_
  refine o_nil ?_
  refine k_seq ?_
  refine k_seq (k_region ?_)
  refine o_move rfl ?_
  refine o_neq rfl rfl rfl ?_
  refine o_nil ?_
  refine k_cF rfl (decide_eq_false (fun h => h rfl)) ?_
  refine k_skip ?_
  refine k_seq ?_
  refine k_seq (k_region ?_)
  refine o_move rfl ?_
  refine o_nil ?_
  refine k_block ?_

  refine k_loop (fun k s => ∃ n : Nat, k + n = 301 ∧ fstN (fun i => doneT b (q :: l) i) 301 0 = fstN (fun i => doneT b (q :: l) i) (301 - n) n ∧ s.st = [.box b.cs, .box (bkTc b (q :: l))] ∧ Holds s [(4, .box 1 0), (15, .int .i64 n)]) (fun k s hI => ?_) 301 _ ?_
  · obtain ⟨n, hk, hf, hst, hs⟩ := hI
    refine k_gen _ _ hs hst fun fr => ?_
    refine k_seq (k_region ?_)
    refine o_lss rfl rfl rfl ?_
    refine o_nil ?_
    refine k_seq ?_
    refine k_cond rfl (fun h1 => ?_) (fun h1 => ?_)
    · have hn : n < 301 := by
        have := of_decide_eq_true h1
        omega
      have e4 : 301 - n = (300 - n) + 1 := by omega
      refine k_skip ?_
      refine k_seq ?_
      refine k_block ?_
      refine k_seq (k_region ?_)
      refine o_move rfl ?_
      refine o_assign rfl ?_
      refine o_nil ?_
      refine k_seq (k_region ?_)
      refine o_loadN rfl rfl rfl sh67 rfl ?_
      refine o_move rfl ?_
      refine o_call rfl (ret54 hi hd hl n (by omega)) (.lrefl _) ?_
      refine o_nil ?_
      refine k_cond rfl (fun h2 => ?_) (fun h2 => ?_)
      · refine k_seq (k_region ?_)
        refine o_move rfl ?_
        refine o_assign rfl ?_
        refine o_assign rfl ?_
        refine o_nil ?_
        refine k_ret ?_
        refine ⟨.inr rfl, _, .cons _ _ _ _ (.tmp 2) (.cons _ _ _ _ (.tmp 3) .nil), ?_⟩
        rw [hf, e4, fstN, if_pos h2]; exact .refl _
      · refine k_skip ?_
        refine k_region ?_
        refine o_add rfl rfl rfl (by unfold I64; omega) ?_
        refine o_move rfl ?_
        refine o_nil ?_
        exact ⟨k - 1, by omega, n + 1, by omega, by rw [hf, e4, fstN, if_neg (by rw [h2]; simp), show 301 - (n + 1) = 300 - n by omega], rfl, .cons rfl (.cons rfl (.nil rfl))⟩
    · refine k_exit ?_
      refine k_seq (k_region ?_)
      refine o_assign rfl ?_
      refine o_assign rfl ?_
      refine o_nil ?_
      refine k_ret ?_
      refine ⟨.inr rfl, _, .cons _ _ _ _ (.tmp 2) (.cons _ _ _ _ (.tmp 3) .nil), ?_⟩
      have hn : ¬ ((n : Int) < 301) := of_decide_eq_false h1
      rw [hf, show 301 - n = 0 by omega]; exact .refl _
  · exact ⟨0, rfl, rfl, rfl, .cons rfl (.cons rfl (.nil rfl))⟩

-- 20 saron/forge.Sound params [28] pure True
noncomputable def b18 : Code := (Tryz.f18.body).getD .skip
theorem body18 : bodyOf Tryz.prog 18 = some (23, b18, [.tmp 2, .tmp 3]) := by kernel_rfl
theorem pure18 : pureFn Tryz.prog 18 = true := by kernel_rfl
set_option maxHeartbeats 4000000 in
theorem ret18 (hi : Off is) {b : Bk} (hb : Ok b) {q : Tri} {l : List Tri} (hT : trs b = q :: l) : RetP Tryz.prog is orc 18 [b.u] (.tup [.int .i64 (optI (lstN (fun i => soundT b (q :: l) i) 301)), .int .i64 (optE (lstN (fun i => soundT b (q :: l) i) 301))]) := by
  refine ret_of body18 pure18 (hi 18 (by decide)) rfl rfl (dat_l1 (dat_bk b 5)) (.inr ⟨_, rfl, dat_l2 (.int _ _ _) (.int _ _ _)⟩) ?_
  have hd : ∀ d ∈ q :: l, DOk b.thick d := by rw [← hT]; exact trs_ok hb
  have hl : (q :: l).length ≤ 8000 := by rw [← hT]; exact trs_len hb
  refine k_seq (k_region ?_)
  refine o_box rfl rfl ?_
  refine o_assign rfl ?_
  refine o_assign rfl ?_
  refine o_nil ?_
  refine k_seq (k_region ?_)
  refine o_loadN rfl rfl rfl sh28 rfl ?_
  refine o_call rfl (ret36 hi hb hT) (.lrefl _) ?_
  refine o_move rfl ?_
  refine o_extract rfl rfl rfl ?_
  refine o_extract rfl rfl rfl ?_
  refine o_alloc rfl ze67 ?_
  refine o_storeN rfl rfl sh67 rfl rfl rfl rfl rfl ?_
  refine o_assign rfl ?_
  refine o_nil ?_
  refine k_seq ?_
  refine k_seq (k_region ?_)
  refine o_move rfl ?_
  refine o_neq rfl rfl rfl ?_
  refine o_nil ?_
  refine k_cF rfl (decide_eq_false (fun h => h rfl)) ?_
  refine k_skip ?_
  refine k_seq ?_
  refine k_seq (k_region ?_)
  refine o_assign rfl ?_
  refine o_nil ?_
  refine k_block ?_

  refine k_loop (fun k s => ∃ n : Nat, k = n ∧ n ≤ 301 ∧ lstN (fun i => soundT b (q :: l) i) 301 = lstN (fun i => soundT b (q :: l) i) n ∧ s.st = [.box b.cs, .box (bkTc b (q :: l))] ∧ Holds s [(4, .box 1 0), (6, .int .i64 (n - 1))]) (fun k s hI => ?_) 301 _ ?_
  · obtain ⟨n, hk, hk2, hf, hst, hs⟩ := hI
    refine k_gen _ _ hs hst fun fr => ?_
    refine k_seq ?_
    refine k_seq (k_region ?_)
    refine o_move rfl ?_
    refine o_geq rfl rfl rfl ?_
    refine o_nil ?_
    refine k_cond rfl (fun h1 => ?_) (fun h1 => ?_)
    · have hn : 0 ≤ (n : Int) - 1 := of_decide_eq_true h1
      obtain ⟨m, rfl⟩ : ∃ m, n = m + 1 := ⟨n - 1, by omega⟩
      have e4 : ((m + 1 : Nat) : Int) - 1 = m := by omega
      rw [e4]
      refine k_skip ?_
      refine k_seq ?_
      refine k_block ?_
      refine k_seq (k_region ?_)
      refine o_loadN rfl rfl rfl sh67 rfl ?_
      refine o_move rfl ?_
      refine o_call rfl (ret55 hi hd hl m (by omega)) (.lrefl _) ?_
      refine o_nil ?_
      refine k_cond rfl (fun h2 => ?_) (fun h2 => ?_)
      · refine k_seq (k_region ?_)
        refine o_move rfl ?_
        refine o_assign rfl ?_
        refine o_assign rfl ?_
        refine o_nil ?_
        refine k_ret ?_
        refine ⟨.inr rfl, _, .cons _ _ _ _ (.tmp 2) (.cons _ _ _ _ (.tmp 3) .nil), ?_⟩
        rw [hf, lstN, if_pos h2]; exact .refl _
      · refine k_skip ?_
        refine k_region ?_
        refine o_move rfl ?_
        refine o_sub rfl rfl rfl (by unfold I64; omega) ?_
        refine o_assign rfl ?_
        refine o_nil ?_
        exact ⟨m, by omega, m, rfl, by omega, by rw [hf, lstN, if_neg (by rw [h2]; simp)], rfl, .cons rfl (.cons rfl (.nil rfl))⟩
    · refine k_exit ?_
      refine k_seq (k_region ?_)
      refine o_assign rfl ?_
      refine o_assign rfl ?_
      refine o_nil ?_
      refine k_ret ?_
      refine ⟨.inr rfl, _, .cons _ _ _ _ (.tmp 2) (.cons _ _ _ _ (.tmp 3) .nil), ?_⟩
      have hn : ¬ (0 ≤ (n : Int) - 1) := of_decide_eq_false h1
      rw [hf, show n = 0 by omega]; exact .refl _
  · exact ⟨301, rfl, by omega, rfl, rfl, .cons rfl (.cons rfl (.nil rfl))⟩

set_option maxHeartbeats 4000000 in
theorem ret36n (hi : Off is) {b : Bk} (hb : Ok b) (hT : trs b = []) : RetP Tryz.prog is orc 36 [b.u, .bool true] (.tup [zbk, .int .i64 22]) := by
  refine ret_of body36 pure36 (hi 36 (by decide)) rfl rfl (dat_l2 (dat_bk b 5) (.bool _ _)) (.inr ⟨_, rfl, dat_l2 (dat_zbk 4) (.int _ _ _)⟩) ?_
  have h53 := ret63 (orc := orc) hi hb
  rw [hT] at h53
  refine k_seq (k_region ?_)
  refine o_box rfl rfl ?_
  refine o_alloc rfl ze67 ?_
  refine o_assign rfl ?_
  refine o_nil ?_
  refine k_seq (k_region ?_)
  refine o_loadN rfl rfl rfl sh28 rfl ?_
  refine o_move rfl ?_
  refine o_call rfl (ret43 hi hb) (.lrefl _) ?_
  refine o_move rfl ?_
  refine o_extract rfl rfl rfl ?_
  refine o_extract rfl rfl rfl ?_
  refine o_alloc rfl ze67 ?_
  refine o_storeN rfl rfl sh67 rfl rfl rfl rfl rfl ?_
  refine o_assign rfl ?_
  refine o_nil ?_
  refine k_seq ?_
  refine k_seq (k_region ?_)
  refine o_move rfl ?_
  refine o_neq rfl rfl rfl ?_
  refine o_nil ?_
  refine k_cF rfl (decide_eq_false (fun h => h rfl)) ?_
  refine k_skip ?_
  refine k_seq (k_region ?_)
  refine o_loadN rfl rfl rfl sh67 rfl ?_
  refine o_call rfl (h53) (.lrefl _) ?_
  refine o_faddr rfl rfl fld67_2 ?_
  refine o_store1 rfl rfl sh65 rfl rfl ?_
  refine o_nil ?_
  refine k_seq ?_
  refine k_seq (k_region ?_)
  refine o_faddr rfl rfl fld67_2 ?_
  refine o_load1 rfl rfl rfl sh65 rfl ?_
  refine o_len rfl ty65 rfl rfl ?_
  refine o_eql rfl rfl rfl ?_
  refine o_nil ?_
  refine k_cT rfl rfl ?_
  refine k_seq (k_region ?_)
  refine o_build (cs := zbkC) rfl ze67 pl67 rfl rfl ?_
  refine o_storeN rfl rfl sh67 rfl rfl rfl rfl rfl ?_
  refine o_assign rfl ?_
  refine o_nil ?_
  refine k_ret ?_
  refine ⟨.inr rfl, _, .cons _ _ _ _ (.cellN 4 67 _ _ _ _ rfl rfl sh67 rfl) (.cons _ _ _ _ (.tmp 5) .nil), ?_⟩
  exact .refl _

set_option maxHeartbeats 4000000 in
theorem ret11n (hi : Off is) {b : Bk} (hb : Ok b) (hT : trs b = []) (n : Int) (hn : 0 ≤ n ∧ n ≤ 300) : RetP Tryz.prog is orc 11 [b.u, .int .i64 n] (.tup [spanU 0 0, .int .i64 22]) := by
  refine ret_of body11 pure11 (hi 11 (by decide)) rfl rfl (dat_l2 (dat_bk b 5) (.int _ _ _)) (.inr ⟨_, rfl, dat_l2 (dat_span _ _ _) (.int _ _ _)⟩) ?_
  have h36 : RetP Tryz.prog is orc 40 [.int .i64 n] (.bool true) := by
    have := ret40 (orc := orc) hi n
    rwa [show (decide (0 ≤ n) && decide (n ≤ 300)) = true by simp; omega] at this
  refine k_seq (k_region ?_)
  refine o_box rfl rfl ?_
  refine o_alloc rfl ze24 ?_
  refine o_assign rfl ?_
  refine o_nil ?_
  refine k_seq ?_
  refine k_draw [.read true, .plain, .read false, .quiet, .plain, .plain, .plain, .pre, .plain, .plain] (by kernel_rfl) (by kernel_rfl) (by kernel_rfl) ?_
  refine d_load rfl (o_loadN rfl rfl rfl sh28 rfl (o_nil rfl)) ?_
  refine d_plain (o_move rfl (o_nil rfl)) ?_
  refine d_callR rfl (h36) (.bool _) (.lrefl _) ?_
  refine d_callQ rfl (ret36n hi hb hT) (.lrefl _) ?_
  refine d_plain (o_move rfl (o_nil rfl)) ?_
  refine d_plain (o_extract rfl rfl rfl (o_nil rfl)) ?_
  refine d_plain (o_extract rfl rfl rfl (o_nil rfl)) ?_
  refine d_pre rfl ze67 ?_
  refine d_plain (o_storeN rfl rfl sh67 rfl rfl rfl rfl rfl (o_nil rfl)) ?_
  refine d_plain (o_assign rfl (o_nil rfl)) ?_
  refine d_nil ?_
  refine k_seq ?_
  refine k_seq (k_region ?_)
  refine o_move rfl ?_
  refine o_neq rfl rfl rfl ?_
  refine o_nil ?_
  refine k_cT rfl rfl ?_
  refine k_seq (k_region ?_)
  refine o_build (cs := [.int .i64 0, .int .i64 0]) rfl ze24 pl24 rfl rfl ?_
  refine o_move rfl ?_
  refine o_storeN rfl rfl sh24 rfl rfl rfl rfl rfl ?_
  refine o_assign rfl ?_
  refine o_nil ?_
  refine k_ret ?_
  refine ⟨.inr rfl, _, .cons _ _ _ _ (.cellN 4 24 _ _ _ _ rfl rfl sh24 rfl) (.cons _ _ _ _ (.tmp 5) .nil), ?_⟩
  exact .refl _

set_option maxHeartbeats 4000000 in
theorem ret16n (hi : Off is) {b : Bk} (hb : Ok b) (hT : trs b = []) : RetP Tryz.prog is orc 16 [b.u] (.tup [.int .i64 0, .int .i64 22]) := by
  refine ret_of body16 pure16 (hi 16 (by decide)) rfl rfl (dat_l1 (dat_bk b 5)) (.inr ⟨_, rfl, dat_l2 (.int _ _ _) (.int _ _ _)⟩) ?_
  refine k_seq (k_region ?_)
  refine o_box rfl rfl ?_
  refine o_assign rfl ?_
  refine o_assign rfl ?_
  refine o_nil ?_
  refine k_seq (k_region ?_)
  refine o_loadN rfl rfl rfl sh28 rfl ?_
  refine o_call rfl (ret36n hi hb hT) (.lrefl _) ?_
  refine o_move rfl ?_
  refine o_extract rfl rfl rfl ?_
  refine o_extract rfl rfl rfl ?_
  refine o_alloc rfl ze67 ?_
  refine o_storeN rfl rfl sh67 rfl rfl rfl rfl rfl ?_
  refine o_assign rfl ?_
  refine o_nil ?_
  refine k_seq ?_
  refine k_seq (k_region ?_)
  refine o_move rfl ?_
  refine o_neq rfl rfl rfl ?_
  refine o_nil ?_
  refine k_cT rfl rfl ?_
  refine k_seq (k_region ?_)
  refine o_move rfl ?_
  refine o_assign rfl ?_
  refine o_assign rfl ?_
  refine o_nil ?_
  refine k_ret ?_
  refine ⟨.inr rfl, _, .cons _ _ _ _ (.tmp 2) (.cons _ _ _ _ (.tmp 3) .nil), ?_⟩
  exact .refl _

set_option maxHeartbeats 4000000 in
theorem ret18n (hi : Off is) {b : Bk} (hb : Ok b) (hT : trs b = []) : RetP Tryz.prog is orc 18 [b.u] (.tup [.int .i64 0, .int .i64 22]) := by
  refine ret_of body18 pure18 (hi 18 (by decide)) rfl rfl (dat_l1 (dat_bk b 5)) (.inr ⟨_, rfl, dat_l2 (.int _ _ _) (.int _ _ _)⟩) ?_
  refine k_seq (k_region ?_)
  refine o_box rfl rfl ?_
  refine o_assign rfl ?_
  refine o_assign rfl ?_
  refine o_nil ?_
  refine k_seq (k_region ?_)
  refine o_loadN rfl rfl rfl sh28 rfl ?_
  refine o_call rfl (ret36n hi hb hT) (.lrefl _) ?_
  refine o_move rfl ?_
  refine o_extract rfl rfl rfl ?_
  refine o_extract rfl rfl rfl ?_
  refine o_alloc rfl ze67 ?_
  refine o_storeN rfl rfl sh67 rfl rfl rfl rfl rfl ?_
  refine o_assign rfl ?_
  refine o_nil ?_
  refine k_seq ?_
  refine k_seq (k_region ?_)
  refine o_move rfl ?_
  refine o_neq rfl rfl rfl ?_
  refine o_nil ?_
  refine k_cT rfl rfl ?_
  refine k_seq (k_region ?_)
  refine o_move rfl ?_
  refine o_assign rfl ?_
  refine o_assign rfl ?_
  refine o_nil ?_
  refine k_ret ?_
  refine ⟨.inr rfl, _, .cons _ _ _ _ (.tmp 2) (.cons _ _ _ _ (.tmp 3) .nil), ?_⟩
  exact .refl _

theorem fst_some {p : Nat → Bool} : ∀ {k n m : Nat}, fstN p k n = some m → n ≤ m ∧ m < n + k ∧ p m = true ∧ ∀ j, n ≤ j → j < m → p j = false := by
  intro k
  induction k with
  | zero => intro n m h; cases h
  | succ k ih =>
    intro n m h
    unfold fstN at h
    by_cases hp : p n = true
    · rw [if_pos hp] at h; cases h
      exact ⟨Nat.le_refl _, by omega, hp, fun j h1 h2 => by omega⟩
    · rw [if_neg hp] at h
      obtain ⟨a, b, c, d⟩ := ih h
      refine ⟨by omega, by omega, c, fun j h1 h2 => ?_⟩
      by_cases e : j = n
      · subst e; simpa using hp
      · exact d j (by omega) h2
theorem fst_none {p : Nat → Bool} : ∀ {k n : Nat}, fstN p k n = none → ∀ j, n ≤ j → j < n + k → p j = false := by
  intro k
  induction k with
  | zero => intro n _ j h1 h2; omega
  | succ k ih =>
    intro n h j h1 h2
    unfold fstN at h
    by_cases hp : p n = true
    · rw [if_pos hp] at h; cases h
    · rw [if_neg hp] at h
      by_cases e : j = n
      · subst e; simpa using hp
      · exact ih h j (by omega) (by omega)
theorem lst_some {p : Nat → Bool} : ∀ {n m : Nat}, lstN p n = some m → m < n ∧ p m = true ∧ ∀ j, m < j → j < n → p j = false := by
  intro n
  induction n with
  | zero => intro m h; cases h
  | succ n ih =>
    intro m h
    unfold lstN at h
    by_cases hp : p n = true
    · rw [if_pos hp] at h; cases h
      exact ⟨by omega, hp, fun j h1 h2 => by omega⟩
    · rw [if_neg hp] at h
      obtain ⟨a, b, c⟩ := ih h
      refine ⟨by omega, b, fun j h1 h2 => ?_⟩
      by_cases e : j = n
      · subst e; simpa using hp
      · exact c j h1 (by omega)
theorem lst_none {p : Nat → Bool} : ∀ {n : Nat}, lstN p n = none → ∀ j, j < n → p j = false := by
  intro n
  induction n with
  | zero => intro _ j h; omega
  | succ n ih =>
    intro h j hj
    unfold lstN at h
    by_cases hp : p n = true
    · rw [if_pos hp] at h; cases h
    · rw [if_neg hp] at h
      by_cases e : j = n
      · subst e; simpa using hp
      · exact ih h j (by omega)
theorem mm_fold {th n : Int} (T : List Tri) (s : Int × Int) (h : s.1 ≤ s.2) : (T.foldl (mm th n) s).1 ≤ s.1 ∧ s.2 ≤ (T.foldl (mm th n) s).2 ∧ (T.foldl (mm th n) s).1 ≤ (T.foldl (mm th n) s).2 ∧ (∀ d ∈ T, (T.foldl (mm th n) s).1 ≤ aft th d n ∧ aft th d n ≤ (T.foldl (mm th n) s).2) ∧
    ((T.foldl (mm th n) s).1 = s.1 ∨ ∃ d ∈ T, (T.foldl (mm th n) s).1 = aft th d n) ∧ ((T.foldl (mm th n) s).2 = s.2 ∨ ∃ d ∈ T, (T.foldl (mm th n) s).2 = aft th d n) := by
  induction T generalizing s with
  | nil => exact ⟨Int.le_refl _, Int.le_refl _, h, fun d hd => (by cases hd), .inl rfl, .inl rfl⟩
  | cons d T ih =>
    have h1 : (mm th n s d).1 = min s.1 (aft th d n) := rfl
    have h2 : (mm th n s d).2 = max s.2 (aft th d n) := rfl
    obtain ⟨a1, a2, a3, a4, a5, a6⟩ := ih (mm th n s d) (by rw [h1, h2]; omega)
    rw [List.foldl_cons]
    rw [h1] at a1 a5; rw [h2] at a2 a6
    refine ⟨by clear a5 a6; omega, by clear a5 a6; omega, a3, fun x hx => ?_, ?_, ?_⟩
    · rcases List.mem_cons.1 hx with rfl | hx
      · clear a5 a6; omega
      · exact a4 x hx
    · clear a6
      rcases a5 with a5 | ⟨x, hx, a5⟩
      · by_cases e : s.1 ≤ aft th d n
        · left; omega
        · right; exact ⟨d, List.mem_cons_self, by omega⟩
      · right; exact ⟨x, List.mem_cons_of_mem _ hx, a5⟩
    · clear a5
      rcases a6 with a6 | ⟨x, hx, a6⟩
      · by_cases e : aft th d n ≤ s.2
        · left; omega
        · right; exact ⟨d, List.mem_cons_self, by omega⟩
      · right; exact ⟨x, List.mem_cons_of_mem _ hx, a6⟩
/-- the least and the greatest thickness -/
theorem low_spec (th : Int) (q : Tri) (l : List Tri) (n : Int) : lowT th (q :: l) n ≤ highT th (q :: l) n ∧ (∀ d ∈ q :: l, lowT th (q :: l) n ≤ aft th d n ∧ aft th d n ≤ highT th (q :: l) n) ∧ (∃ d ∈ q :: l, lowT th (q :: l) n = aft th d n) ∧ ∃ d ∈ q :: l, highT th (q :: l) n = aft th d n := by
  unfold lowT highT thI
  rw [List.take_length]
  obtain ⟨a1, a2, a3, a4, a5, a6⟩ := mm_fold (th := th) (n := n) (q :: l) (aft th q n, aft th q n) (Int.le_refl _)
  refine ⟨a3, a4, ?_, ?_⟩
  · rcases a5 with a5 | a5
    · exact ⟨q, List.mem_cons_self, a5⟩
    · exact a5
  · rcases a6 with a6 | a6
    · exact ⟨q, List.mem_cons_self, a6⟩
    · exact a6
theorem low_b {th n : Int} {q : Tri} {l : List Tri} (hd : ∀ d ∈ q :: l, DOk th d) (hn : 0 ≤ n ∧ n ≤ 301) : -6060 ≤ lowT th (q :: l) n ∧ lowT th (q :: l) n ≤ 3000 ∧ -6060 ≤ highT th (q :: l) n ∧ highT th (q :: l) n ≤ 3000 := by
  obtain ⟨_, _, ⟨d, h1, h2⟩, ⟨e, h3, h4⟩⟩ := low_spec th q l n
  have := aft_b (hd d h1) hn
  have := aft_b (hd e h3) hn
  omega
theorem aft_zero (th : Int) (d : Tri) : aft th d 0 = th := by
  unfold aft
  rw [show bl 0 0 = 0 by decide, show bl 0 1 = 0 by decide, show bl 0 2 = 0 by decide]; omega
end Go.Proofs.YtniplfmjbjjocaaGreat.forgeBlows
