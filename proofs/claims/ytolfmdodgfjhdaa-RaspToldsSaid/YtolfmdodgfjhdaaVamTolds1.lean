/- rasp's functions, one by one, by the logic of trees: what each gives back for all that it may be given. -/
import Derived.Test.YtolfmdodgfjhdaaVamO
import Derived.Test.YtolfmdodgfjhdaaProg
import Derived.KernelRfl
namespace Go.Proofs.Ytolfmdodgfjhdaa.raspTolds
open Vam
set_option linter.unusedVariables false
set_option linter.unusedSimpArgs false
theorem cl118 : Program.cellsOf Try.prog 118 = 3 := by kernel_rfl
theorem fld75_1 : fieldOf Try.prog 75 1 = some (4, 73) := by kernel_rfl
theorem fld75_2 : fieldOf Try.prog 75 2 = some (5, 73) := by kernel_rfl
theorem pl118 : plcOf Try.prog 118 = some [(0, 1), (1, 1), (2, 1)] := by kernel_rfl
theorem pl119 : plcOf Try.prog 119 = some [(0, 3), (3, 3)] := by kernel_rfl
theorem pl75 : plcOf Try.prog 75 = some [(0, 4), (4, 1), (5, 1)] := by kernel_rfl
theorem sh118 : shOf Try.prog 118 = .many 3 := by kernel_rfl
theorem sh119 : shOf Try.prog 119 = .many 6 := by kernel_rfl
theorem sh124 : shOf Try.prog 124 = .one := by kernel_rfl
theorem sh27 : shOf Try.prog 27 = .many 4 := by kernel_rfl
theorem sh73 : shOf Try.prog 73 = .one := by kernel_rfl
theorem sh75 : shOf Try.prog 75 = .many 6 := by kernel_rfl
theorem sh78 : shOf Try.prog 78 = .one := by kernel_rfl
theorem ty119 : tyOf Try.prog 119 = .array 2 118 := by kernel_rfl
theorem ze118 : zeroL Try.prog 118 = some ((.cons .nilf (.cons (.bool false) (.cons .nilf .nil))) : V) := by kernel_rfl
theorem ze119 : zeroL Try.prog 119 = some ((.cons .nilf (.cons (.bool false) (.cons .nilf (.cons .nilf (.cons (.bool false) (.cons .nilf .nil)))))) : V) := by kernel_rfl
theorem ze124 : zeroL Try.prog 124 = some ((.cons .nilm .nil) : V) := by kernel_rfl
theorem ze73 : zeroL Try.prog 73 = some ((.cons .nilf .nil) : V) := by kernel_rfl
theorem ze75 : zeroL Try.prog 75 = some ((.cons .nils (.cons (.int .i64 0) (.cons (.int .i64 0) (.cons .nils (.cons .nilf (.cons .nilf .nil)))))) : V) := by kernel_rfl
theorem ze78 : zeroL Try.prog 78 = some ((.cons .nilf .nil) : V) := by kernel_rfl

variable {is : FuncId → Bool} {orc : Known}

theorem mapTy_of {P : Program} {t : TypeId} (h : (match tyOf P t with | .map _ _ => true | _ => false) = true) : ∃ a b, tyOf P t = .map a b := by
  cases ht : tyOf P t <;> rw [ht] at h <;> first | exact ⟨_, _, rfl⟩ | cases h
abbrev chooseU : U := .fn 84 [] [.junk, .junk, .junk, .junk, .junk]
abbrev waysU : U := .agg [.fn 76 [] [], .bool true, .fn 82 [] [], .fn 83 [] [], .bool false, .fn 82 [] []]
noncomputable def b78 : Code := (Try.f78.body).getD .skip
theorem body78 : bodyOf Try.prog 78 = some (4, b78, [.cell 0 119]) := by kernel_rfl
theorem pure78 : pureFn Try.prog 78 = false := by kernel_rfl
theorem nb_fn0 (f : Nat) : NB (.fn f [] []) := NB.fn (fun _ h => by cases h) (fun _ h => by cases h)
theorem nb_ways : NB waysU := by
  refine NB.agg fun c hc => ?_
  simp only [List.mem_cons, List.not_mem_nil, or_false] at hc
  rcases hc with rfl | rfl | rfl | rfl | rfl | rfl <;> first | exact nb_fn0 _ | exact NB.bool _
theorem ret78 : RetP Try.prog is orc 78 [] waysU := by
  refine ret_of_shared body78 pure78 rfl rfl (fun _ h => by cases h) nb_ways ?_
  refine k_seq ?_
  refine k_region ?_   -- region 0 plan.go:43
  refine o_alloc rfl ze119 ?_
  refine o_nil ?_
  refine k_seq ?_
  refine k_region ?_   -- region 1 plan.go:44
  refine o_build rfl ze118 pl118 rfl rfl ?_
  refine o_build rfl ze118 pl118 rfl rfl ?_
  refine o_build rfl ze119 pl119 rfl rfl ?_
  refine o_storeN rfl rfl sh119 rfl rfl rfl rfl rfl ?_
  refine o_nil ?_
  refine k_ret ?_
  exact ⟨.inr rfl, _, .cons _ _ _ _ (.cellN 0 119 _ _ _ _ rfl rfl sh119 rfl) .nil, .refl _⟩

theorem nb_choose : NB chooseU := NB.fn (fun _ h => by cases h) fun u hu => by
  simp only [List.mem_cons, List.not_mem_nil, or_false, or_self] at hu
  subst hu; exact NB.junk
theorem uw_junk (us vs : List U) (h : vs = us.map fun _ => .junk) : UW (.l us) (.l vs) := by
  subst h
  induction us with
  | nil => exact .lrefl _
  | cons u us ih => exact .lcons _ _ _ _ (.junk _) ih
abbrev shopU (ts ks : List U) (lo hi : Int) : U := .agg [.lst .ro 3 ts, .int .i64 lo, .int .i64 hi, .lst .ro 3 ks]
abbrev shopF (ts ks : List U) (lo hi : Int) (x y : U) : U := .agg [.lst .ro 3 ts, .int .i64 lo, .int .i64 hi, .lst .ro 3 ks, x, y]
theorem NoOwn.agg (cs : List U) : NoOwn (.agg cs) := NoOwn.of (by intro z es h; cases h)
theorem NoOwn.int (k : IntKind) (n : Int) : NoOwn (.int k n) := NoOwn.of (by intro z es h; cases h)
theorem NoOwn.bool (b : Bool) : NoOwn (.bool b) := NoOwn.of (by intro z es h; cases h)
section shop
variable {ts ks : List U} {lo hi : Int} (h1 : NB (.lst .ro 3 ts)) (h2 : NB (.lst .ro 3 ks))
include h1 h2
theorem nb_shop : NB (shopU ts ks lo hi) := by
  refine NB.agg fun c hc => ?_
  simp only [List.mem_cons, List.not_mem_nil, or_false] at hc
  rcases hc with rfl | rfl | rfl | rfl <;> first | assumption | exact NB.int _ _
theorem nb_shopF {x y : U} (hx : NB x) (hy : NB y) : NB (shopF ts ks lo hi x y) := by
  refine NB.agg fun c hc => ?_
  simp only [List.mem_cons, List.not_mem_nil, or_false] at hc
  rcases hc with rfl | rfl | rfl | rfl | rfl | rfl <;> first | assumption | exact NB.int _ _

noncomputable def b79 : Code := (Try.f79.body).getD .skip
omit h1 h2 in
theorem body79 : bodyOf Try.prog 79 = some (13, b79, [.tmp 4]) := by kernel_rfl
omit h1 h2 in
theorem pure79 : pureFn Try.prog 79 = false := by kernel_rfl
omit h1 h2 in
theorem ty124 : ∃ a b, tyOf Try.prog 124 = .map a b := mapTy_of (by kernel_rfl)
theorem ret79 (f g : Nat) (b : Bool) : RetP Try.prog is orc 79 [shopF ts ks lo hi .nilf .nilf, .agg [.fn f [] [], .bool b, .fn g [] []]] chooseU := by
  obtain ⟨ka, kb, ty124⟩ := ty124
  refine ret_of_shared body79 pure79 rfl rfl ?_ nb_choose ?_
  · intro u hu
    simp only [List.mem_cons, List.not_mem_nil, or_false] at hu
    rcases hu with rfl | rfl
    · exact ⟨nb_shopF h1 h2 NB.nilf NB.nilf, NoOwn.agg _⟩
    · refine ⟨NB.agg fun c hc => ?_, NoOwn.agg _⟩
      simp only [List.mem_cons, List.not_mem_nil, or_false] at hc
      rcases hc with rfl | rfl | rfl <;> first | exact nb_fn0 _ | exact NB.bool _
  refine k_seq ?_
  refine k_region ?_   -- region 0 plan.go:62
  refine o_box rfl rfl ?_
  refine o_box rfl rfl ?_
  refine o_assign rfl ?_
  refine o_nil ?_
  refine k_seq ?_
  refine k_region ?_   -- region 1 plan.go:63
  refine o_makeMap rfl ty124 ?_
  refine o_alloc rfl ze124 ?_
  refine o_store1 rfl rfl sh124 rfl rfl ?_
  refine o_nil ?_
  refine k_seq ?_
  refine k_region ?_   -- region 2 plan.go:64
  first | refine o_loadN rfl rfl rfl sh75 rfl ?_ | refine o_loadRN rfl rfl sh75 rfl ?_
  refine o_func rfl ?_
  refine o_alloc rfl ze78 ?_
  refine o_store1 rfl rfl sh78 rfl rfl ?_
  refine o_nil ?_
  refine k_seq ?_
  refine k_region ?_   -- region 3 plan.go:65
  refine o_alloc rfl ze73 ?_
  refine o_nil ?_
  refine k_seq ?_
  refine k_region ?_   -- region 4 plan.go:66
  refine o_func rfl ?_
  refine o_store1 rfl rfl sh73 rfl rfl ?_
  refine o_nil ?_
  refine k_seq ?_
  refine k_region ?_   -- region 5 plan.go:99
  first | refine o_load1 rfl rfl rfl sh73 rfl ?_ | refine o_loadR1 rfl rfl sh73 rfl ?_
  refine o_assign rfl ?_
  refine o_nil ?_
  refine k_ret ?_
  exact ⟨.inr rfl, _, .cons _ _ _ _ (.tmp 4) .nil, .fn _ _ _ _ _ (.lrefl _) (uw_junk _ _ rfl)⟩

noncomputable def b70 : Code := (Try.f70.body).getD .skip
omit h1 h2 in
theorem body70 : bodyOf Try.prog 70 = some (19, b70, [.cell 2 75]) := by kernel_rfl
omit h1 h2 in
theorem pure70 : pureFn Try.prog 70 = false := by kernel_rfl
theorem ret70 : RetP Try.prog is orc 70 [shopU ts ks lo hi] (shopF ts ks lo hi chooseU chooseU) := by
  refine ret_of_shared body70 pure70 rfl rfl ?_ (nb_shopF h1 h2 nb_choose nb_choose) ?_
  · intro u hu
    simp only [List.mem_cons, List.not_mem_nil, or_false] at hu
    subst hu
    exact ⟨nb_shop h1 h2, NoOwn.agg _⟩
  refine k_seq ?_
  refine k_region ?_   -- region 0 shop.go:11
  refine o_box rfl rfl ?_
  refine o_alloc rfl ze75 ?_
  refine o_nil ?_
  refine k_seq ?_
  refine k_region ?_   -- region 1 shop.go:12
  first | refine o_loadN rfl rfl rfl sh27 rfl ?_ | refine o_loadRN rfl rfl sh27 rfl ?_
  refine o_build rfl ze75 pl75 rfl rfl ?_
  refine o_alloc rfl ze75 ?_
  refine o_storeN rfl rfl sh75 rfl rfl rfl rfl rfl ?_
  refine o_nil ?_
  refine k_seq ?_
  refine k_region ?_   -- region 2 shop.go:13
  refine o_call rfl (ret78) (.lrefl _) ?_
  refine o_alloc rfl ze119 ?_
  refine o_storeN rfl rfl sh119 rfl rfl rfl rfl rfl ?_
  refine o_nil ?_
  refine k_seq ?_
  refine k_draw [.read true, .plain, .read true, .quiet, .read true, .plain, .read true, .plain, .plain, .plain, .plain, .plain] (by kernel_rfl) (by kernel_rfl) (by kernel_rfl) ?_   -- region 3
  first | refine d_load rfl (o_loadN rfl rfl rfl sh75 rfl (o_nil rfl)) ?_ | refine d_load rfl (o_loadRN rfl rfl sh75 rfl (o_nil rfl)) ?_
  first | refine d_plain (o_idxA rfl ty119 rfl rfl (by omega) (by omega) cl118 (o_nil rfl)) ?_ | refine d_plain (o_idxE rfl ty119 rfl rfl (by omega) (by omega) cl118 (o_nil rfl)) ?_
  first | refine d_load rfl (o_loadN rfl rfl rfl sh118 rfl (o_nil rfl)) ?_ | refine d_load rfl (o_loadRN rfl rfl sh118 rfl (o_nil rfl)) ?_
  refine d_callQ rfl (ret79 h1 h2 _ _ _) (.lrefl _) ?_
  first | refine d_load rfl (o_loadN rfl rfl rfl sh75 rfl (o_nil rfl)) ?_ | refine d_load rfl (o_loadRN rfl rfl sh75 rfl (o_nil rfl)) ?_
  first | refine d_plain (o_idxA rfl ty119 rfl rfl (by omega) (by omega) cl118 (o_nil rfl)) ?_ | refine d_plain (o_idxE rfl ty119 rfl rfl (by omega) (by omega) cl118 (o_nil rfl)) ?_
  first | refine d_load rfl (o_loadN rfl rfl rfl sh118 rfl (o_nil rfl)) ?_ | refine d_load rfl (o_loadRN rfl rfl sh118 rfl (o_nil rfl)) ?_
  refine d_plain (o_call rfl (ret79 h1 h2 _ _ _) (.lrefl _) (o_nil rfl)) ?_
  first | refine d_plain (o_faddr rfl rfl fld75_1 (o_nil rfl)) ?_ | refine d_plain (o_faddrR rfl rfl fld75_1 (o_nil rfl)) ?_
  refine d_plain (o_store1 rfl rfl sh73 rfl rfl (o_nil rfl)) ?_
  first | refine d_plain (o_faddr rfl rfl fld75_2 (o_nil rfl)) ?_ | refine d_plain (o_faddrR rfl rfl fld75_2 (o_nil rfl)) ?_
  refine d_plain (o_store1 rfl rfl sh73 rfl rfl (o_nil rfl)) ?_
  refine d_nil ?_
  refine k_seq ?_
  refine k_region ?_   -- region 4 shop.go:15
  first | refine o_loadN rfl rfl rfl sh75 rfl ?_ | refine o_loadRN rfl rfl sh75 rfl ?_
  refine o_storeN rfl rfl sh75 rfl rfl rfl rfl rfl ?_
  refine o_nil ?_
  refine k_ret ?_
  exact ⟨.inr rfl, _, .cons _ _ _ _ (.cellN 2 75 _ _ _ _ rfl rfl sh75 rfl) .nil, .refl _⟩

abbrev shopZ : U := .agg [.lst .full 0 [], .int .i64 0, .int .i64 0, .lst .full 0 [], .nilf, .nilf]
noncomputable def askR (ts ks : List U) (lo hi c : Int) (q : Bool) : U :=
  if c ≠ 0 then .tup [shopZ, .int .i64 c] else if q = false then .tup [shopZ, .int .i64 31] else .tup [shopF ts ks lo hi chooseU chooseU, .int .i64 0]
omit h1 h2 in
theorem nb_nil : NB (.lst .full 0 []) := fun _ _ _ hv => by
  cases hv with
  | nils => exact .nils _ _
  | over _ _ h0 => exact .over _ _ h0
  | slice _ _ _ _ _ _ _ _ _ _ _ _ _ _ _ _ h0 => exact absurd h0 (Nat.lt_irrefl _)
omit h1 h2 in
theorem nb_two {a b : U} (ha : NB a) (hb : NB b) : NB (.tup [a, b]) := NB.tup fun c hc => by
  simp only [List.mem_cons, List.not_mem_nil, or_false] at hc
  rcases hc with rfl | rfl <;> assumption
omit h1 h2 in
theorem nb_shopZ : NB shopZ := NB.agg fun c hc => by
  simp only [List.mem_cons, List.not_mem_nil, or_false] at hc
  rcases hc with rfl | rfl | rfl | rfl | rfl | rfl <;> first | exact nb_nil | exact NB.int _ _ | exact NB.nilf
theorem nb_ask (c : Int) (q : Bool) : NB (askR ts ks lo hi c q) := by
  unfold askR
  split
  · exact nb_two nb_shopZ (NB.int _ _)
  · split
    · exact nb_two nb_shopZ (NB.int _ _)
    · exact nb_two (nb_shopF h1 h2 nb_choose nb_choose) (NB.int _ _)
noncomputable def b49 : Code := (Try.f49.body).getD .skip
omit h1 h2 in
theorem body49 : bodyOf Try.prog 49 = some (18, b49, [.cell 4 75, .tmp 5]) := by kernel_rfl
omit h1 h2 in
theorem pure49 : pureFn Try.prog 49 = false := by kernel_rfl
theorem ret49 {c : Int} (hck : RetP Try.prog is orc 17 [shopU ts ks lo hi] (.int .i64 c)) (q : Bool) : RetP Try.prog is orc 49 [shopU ts ks lo hi, .bool q] (askR ts ks lo hi c q) := by
  refine ret_of_shared body49 pure49 rfl rfl ?_ (nb_ask h1 h2 c q) ?_
  · intro u hu
    simp only [List.mem_cons, List.not_mem_nil, or_false] at hu
    rcases hu with rfl | rfl
    · exact ⟨nb_shop h1 h2, NoOwn.agg _⟩
    · exact ⟨NB.bool _, NoOwn.bool _⟩
  refine k_seq ?_
  refine k_region ?_   -- region 0 rasp.go:122
  refine o_box rfl rfl ?_
  refine o_alloc rfl ze75 ?_
  refine o_assign rfl ?_
  refine o_nil ?_
  refine k_seq ?_
  refine k_seq ?_
  refine k_region ?_   -- region 1 rasp.go:123
  first | refine o_loadN rfl rfl rfl sh27 rfl ?_ | refine o_loadRN rfl rfl sh27 rfl ?_
  refine o_call rfl hck (.lrefl _) ?_
  refine o_assign rfl ?_
  refine o_nil ?_
  refine k_seq ?_
  refine k_region ?_   -- region 2 rasp.go:123
  refine o_move rfl ?_
  refine o_neq rfl rfl rfl ?_
  refine o_nil ?_
  refine k_cond rfl (fun h3 => ?_) (fun h3 => ?_)   -- slot 10
  · refine k_seq ?_
    refine k_region ?_   -- region 3 rasp.go:124
    refine o_build rfl ze75 pl75 rfl rfl ?_
    refine o_move rfl ?_
    refine o_storeN rfl rfl sh75 rfl rfl rfl rfl rfl ?_
    refine o_assign rfl ?_
    refine o_nil ?_
    refine k_ret ?_
    refine ⟨.inr rfl, _, .cons _ _ _ _ (.cellN 4 75 _ _ _ _ rfl rfl sh75 rfl) (.cons _ _ _ _ (.tmp 5) .nil), ?_⟩
    have h4 : c ≠ 0 := by simpa using h3
    rw [show askR ts ks lo hi c q = .tup [shopZ, .int .i64 c] from if_pos h4]
    exact .refl _
  · have h4 : ¬ c ≠ 0 := by simpa using h3
    refine k_skip ?_
    refine k_seq ?_
    refine k_seq ?_
    refine k_region ?_   -- region 4 rasp.go:126
    refine o_move rfl ?_
    refine o_not rfl rfl ?_
    refine o_nil ?_
    refine k_cond rfl (fun h5 => ?_) (fun h5 => ?_)   -- slot 14
    · refine k_seq ?_
      refine k_region ?_   -- region 5 rasp.go:127
      refine o_build rfl ze75 pl75 rfl rfl ?_
      refine o_storeN rfl rfl sh75 rfl rfl rfl rfl rfl ?_
      refine o_assign rfl ?_
      refine o_nil ?_
      refine k_ret ?_
      refine ⟨.inr rfl, _, .cons _ _ _ _ (.cellN 4 75 _ _ _ _ rfl rfl sh75 rfl) (.cons _ _ _ _ (.tmp 5) .nil), ?_⟩
      have h6 : q = false := by simpa using h5
      rw [show askR ts ks lo hi c q = .tup [shopZ, .int .i64 31] from (if_neg h4).trans (if_pos h6)]
      exact .refl _
    · refine k_skip ?_
      refine k_seq ?_
      refine k_region ?_   -- region 6 rasp.go:129
      first | refine o_loadN rfl rfl rfl sh27 rfl ?_ | refine o_loadRN rfl rfl sh27 rfl ?_
      refine o_call rfl (ret70 h1 h2) (.lrefl _) ?_
      refine o_storeN rfl rfl sh75 rfl rfl rfl rfl rfl ?_
      refine o_assign rfl ?_
      refine o_nil ?_
      refine k_ret ?_
      refine ⟨.inr rfl, _, .cons _ _ _ _ (.cellN 4 75 _ _ _ _ rfl rfl sh75 rfl) (.cons _ _ _ _ (.tmp 5) .nil), ?_⟩
      have h6 : ¬ q = false := by simpa using h5
      rw [show askR ts ks lo hi c q = .tup [shopF ts ks lo hi chooseU chooseU, .int .i64 0] from (if_neg h4).trans (if_neg h6)]
      exact .refl _
end shop

theorem fld108_0 : fieldOf Try.prog 108 0 = some (0, 24) := by kernel_rfl
theorem fld108_1 : fieldOf Try.prog 108 1 = some (2, 3) := by kernel_rfl
theorem fld108_2 : fieldOf Try.prog 108 2 = some (3, 3) := by kernel_rfl
theorem fld24_0 : fieldOf Try.prog 24 0 = some (0, 3) := by kernel_rfl
theorem fld24_1 : fieldOf Try.prog 24 1 = some (1, 3) := by kernel_rfl
theorem pl24 : plcOf Try.prog 24 = some [(0, 1), (1, 1)] := by kernel_rfl
theorem sh108 : shOf Try.prog 108 = .many 4 := by kernel_rfl
theorem sh24 : shOf Try.prog 24 = .many 2 := by kernel_rfl
theorem sh3 : shOf Try.prog 3 = .one := by kernel_rfl
theorem cl3 : Program.cellsOf Try.prog 3 = 1 := by kernel_rfl
theorem cl108 : Program.cellsOf Try.prog 108 = 4 := by kernel_rfl
theorem ty109 : tyOf Try.prog 109 = .slice 108 := by kernel_rfl
theorem ty38 : tyOf Try.prog 38 = .slice 3 := by kernel_rfl
theorem ze108 : zeroL Try.prog 108 = some ((.cons (.int .i64 0) (.cons (.int .i64 0) (.cons (.int .i64 0) (.cons (.int .i64 0) .nil)))) : V) := by kernel_rfl
theorem ze24 : zeroL Try.prog 24 = some ((.cons (.int .i64 0) (.cons (.int .i64 0) .nil)) : V) := by kernel_rfl

theorem dat_int1 (n : Int) : ∀ u ∈ [U.int .i64 n], Dat 8 u := fun u hu => by
  simp only [List.mem_cons, List.not_mem_nil, or_false] at hu
  subst hu; exact .int _ _ _

noncomputable def b72 : Code := (Try.f72.body).getD .skip
theorem body72 : bodyOf Try.prog 72 = some (6, b72, [.cell 2 24]) := by kernel_rfl
theorem pure72 : pureFn Try.prog 72 = true := by kernel_rfl
theorem dat_ints2 (a b : Int) (k : Nat) : Dat (k + 2) (.agg [.int .i64 a, .int .i64 b]) := .agg _ _ fun c hc => by
  simp only [List.mem_cons, List.not_mem_nil, or_false] at hc
  rcases hc with rfl | rfl <;> exact .int _ _ _
theorem ret72 (hi : is 72 = false) (n : Int) : RetP Try.prog is orc 72 [.int .i64 n] (.agg [.int .i64 n, .int .i64 n]) := by
  refine ret_of body72 pure72 hi rfl rfl (dat_int1 n) (.inl (dat_ints2 _ _ _)) ?_
  refine k_seq ?_
  refine k_region ?_   -- region 0 span.go:11
  refine o_alloc rfl ze24 ?_
  refine o_nil ?_
  refine k_seq ?_
  refine k_region ?_   -- region 1 span.go:11
  refine o_move rfl ?_
  refine o_move rfl ?_
  refine o_build rfl ze24 pl24 rfl rfl ?_
  refine o_storeN rfl rfl sh24 rfl rfl rfl rfl rfl ?_
  refine o_nil ?_
  refine k_ret ?_
  exact ⟨.inr rfl, _, .cons _ _ _ _ (.cellN 2 24 _ _ _ _ rfl rfl sh24 rfl) .nil, .refl _⟩

noncomputable def b50 : Code := (Try.f50.body).getD .skip
theorem body50 : bodyOf Try.prog 50 = some (9, b50, [.tmp 2]) := by kernel_rfl
theorem pure50 : pureFn Try.prog 50 = true := by kernel_rfl
theorem ret50 (hi : is 50 = false) (n : Int) : RetP Try.prog is orc 50 [.int .i64 n] (.bool (decide (-60 ≤ n) && decide (n ≤ 60))) := by
  refine ret_of body50 pure50 hi rfl rfl (dat_int1 n) (.inl (.bool _ _)) ?_
  refine k_seq ?_
  refine k_region ?_   -- region 0 shop.go:63
  refine o_assign rfl ?_
  refine o_nil ?_
  refine k_seq ?_
  refine k_region ?_   -- region 1 shop.go:63
  refine o_move rfl ?_
  refine o_leq rfl rfl rfl ?_
  refine o_move rfl ?_
  refine o_guard rfl rfl rfl rfl (fun h1 => ?_) (fun h1 => ?_)   -- slot 5
  · refine o_move rfl ?_
    refine o_guard rfl rfl rfl rfl (fun _ => ?_) (fun h => by rw [h1] at h; cases h)
    refine o_leq rfl rfl rfl ?_
    refine o_pickT rfl rfl h1 ?_
    refine o_assign rfl ?_
    refine o_nil ?_
    refine k_ret ⟨.inr rfl, _, .cons _ _ _ _ (.tmp 2) .nil, ?_⟩
    rw [h1]; exact .refl _
  · refine o_guard rfl rfl rfl rfl (fun h => by rw [h1] at h; cases h) (fun _ => ?_)
    refine o_pickF rfl rfl h1 ?_
    refine o_assign rfl ?_
    refine o_nil ?_
    refine k_ret ⟨.inr rfl, _, .cons _ _ _ _ (.tmp 2) .nil, ?_⟩
    rw [h1]; exact .refl _

def offs (l : List Int) : Bool := l.all fun n => decide (-60 ≤ n) && decide (n ≤ 60)
def heardOk (l : List Int) : Bool := decide (1 ≤ l.length) && decide (l.length ≤ 31) && offs l
noncomputable def b68 : Code := (Try.f68.body).getD .skip
theorem body68 : bodyOf Try.prog 68 = some (23, b68, [.tmp 2]) := by kernel_rfl
theorem pure68 : pureFn Try.prog 68 = true := by kernel_rfl
theorem dat_one {u : U} (h : Dat 8 u) : ∀ v ∈ [u], Dat 8 v := fun v hv => by
  simp only [List.mem_cons, List.not_mem_nil, or_false] at hv
  subst hv; exact h
theorem offs_take {l : List Int} {n : Nat} {x : Int} (h : l[n]? = some x) (h1 : offs (l.take n) = true) (h2 : (decide (-60 ≤ x) && decide (x ≤ 60)) = true) : offs (l.take (n + 1)) = true := by
  unfold offs at *
  rw [List.take_add_one, List.all_append, h1, h]
  simpa using h2
theorem offs_not {l : List Int} {n : Nat} {x : Int} (h : l[n]? = some x) (h2 : (decide (-60 ≤ x) && decide (x ≤ 60)) = false) : offs l = false := by
  unfold offs
  rw [List.all_eq_false]
  exact ⟨x, List.mem_of_getElem? h, by simpa using h2⟩
abbrev intsU (l : List Int) : List U := l.map fun n => .int .i64 n
theorem ret68 (hi : is 68 = false) (h50 : is 50 = false) (l : List Int) : RetP Try.prog is orc 68 [.lst .ro 1 (intsU l)] (.bool (heardOk l)) := by
  refine ret_of body68 pure68 hi rfl rfl (dat_one (dat_ints 6 .ro (fun h => by cases h) 1 l)) (.inl (.bool _ _)) ?_
  have hlen : (intsU l).length = l.length := by simp
  refine k_seq ?_
  refine k_region ?_   -- region 0 rasp.go:140
  refine o_assign rfl ?_
  refine o_nil ?_
  refine k_seq ?_
  refine k_seq ?_
  refine k_region ?_   -- region 1 rasp.go:141
  refine o_move rfl ?_
  refine o_len rfl ty38 rfl rfl ?_
  refine o_lss rfl rfl rfl ?_
  refine o_move rfl ?_
  refine o_guard rfl rfl rfl rfl (fun h1 => ?_) (fun h1 => ?_)   -- slot 8
  · have h1' : 1 ≤ l.length := by
      have := h1
      simp only [hlen, decide_eq_false_iff_not] at this
      omega
    refine o_move rfl ?_
    refine o_guard rfl rfl rfl rfl (fun _ => ?_) (fun h => by rw [h1] at h; cases h)
    refine o_len rfl ty38 rfl rfl ?_
    refine o_guard rfl rfl rfl rfl (fun _ => ?_) (fun h => by rw [h1] at h; cases h)
    refine o_gtr rfl rfl rfl ?_
    refine o_pickF rfl rfl h1 ?_
    refine o_nil ?_
    refine k_cond rfl (fun h2 => ?_) (fun h2 => ?_)   -- slot 12
    · refine k_seq ?_
      refine k_region ?_   -- region 2 rasp.go:142
      refine o_assign rfl ?_
      refine o_nil ?_
      refine k_ret ⟨.inr rfl, _, .cons _ _ _ _ (.tmp 2) .nil, ?_⟩
      have h2' : ¬ l.length ≤ 31 := by
        have := h2
        simp only [hlen, decide_eq_true_eq] at this
        omega
      rw [show heardOk l = false by unfold heardOk; simp [h2']]
      exact .refl _
    · have h2' : l.length ≤ 31 := by
        have := h2
        simp only [hlen, decide_eq_false_iff_not] at this
        omega
      refine k_skip ?_
      refine k_seq ?_
      refine k_seq ?_
      refine k_region ?_   -- region 3 rasp.go:144
      refine o_move rfl ?_
      refine o_len rfl ty38 rfl rfl ?_
      refine o_move rfl ?_
      refine o_nil ?_
      refine k_block ?_
      -- LOOP 1
      refine k_loop (fun k s => ∃ n : Nat, k + n = l.length ∧ offs (l.take n) = true ∧ Holds s [(13, .lst .ro 1 (intsU l)), (14, .int .i64 (intsU l).length), (15, .int .i64 n)]) (fun k s hI => ?_) l.length _ ?_
      · obtain ⟨n, hk, ho, hs⟩ := hI
        rw [hs.eq]
        refine k_seq ?_
        refine k_region ?_   -- region 4 rasp.go:144
        refine o_lss rfl rfl rfl ?_
        refine o_nil ?_
        refine k_seq ?_
        refine k_cond rfl (fun h3 => ?_) (fun h3 => ?_)   -- slot 16
        · have h3' : n < l.length := by
            have := h3
            simp only [hlen, decide_eq_true_eq] at this
            omega
          obtain ⟨x, hx⟩ : ∃ x, l[n]? = some x := ⟨l[n], List.getElem?_eq_getElem h3'⟩
          refine k_skip ?_
          refine k_seq ?_
          refine k_block ?_
          refine k_seq ?_
          refine k_region ?_   -- region 5 rasp.go:144
          refine o_idx (u := .int .i64 x) rfl ty38 rfl rfl (Int.natCast_nonneg n) (by simp [hx]) cl3 ?_
          first | refine o_load1 rfl rfl rfl sh3 rfl ?_ | refine o_loadR1 rfl rfl sh3 rfl ?_
          refine o_assign rfl ?_
          refine o_nil ?_
          refine k_seq ?_
          refine k_region ?_   -- region 6 rasp.go:145
          refine o_move rfl ?_
          refine o_call rfl (ret50 h50 x) (.lrefl _) ?_
          refine o_not rfl rfl ?_
          refine o_nil ?_
          refine k_cond rfl (fun h4 => ?_) (fun h4 => ?_)   -- slot 21
          · refine k_seq ?_
            refine k_region ?_   -- region 7 rasp.go:146
            refine o_assign rfl ?_
            refine o_nil ?_
            refine k_ret ⟨.inr rfl, _, .cons _ _ _ _ (.tmp 2) .nil, ?_⟩
            have h5 : (decide (-60 ≤ x) && decide (x ≤ 60)) = false := (Bool.not_eq_true' _).mp h4
            rw [show heardOk l = false by unfold heardOk; rw [offs_not hx h5]; simp]
            exact .refl _
          · refine k_skip ?_
            have h5 : (decide (-60 ≤ x) && decide (x ≤ 60)) = true := by simpa using h4
            refine k_region ?_   -- region 8 rasp.go:144
            refine o_add rfl rfl rfl (by unfold I64; omega) ?_
            refine o_move rfl ?_
            refine o_nil ?_
            exact ⟨k - 1, by omega, n + 1, by omega, offs_take hx ho h5, .cons rfl (.cons rfl (.cons rfl (.nil rfl)))⟩
        · have h3' : n = l.length := by
            have := h3
            simp only [hlen, decide_eq_false_iff_not] at this
            omega
          refine k_exit ?_
          refine k_seq ?_
          refine k_region ?_   -- region 9 rasp.go:149
          refine o_assign rfl ?_
          refine o_nil ?_
          refine k_ret ⟨.inr rfl, _, .cons _ _ _ _ (.tmp 2) .nil, ?_⟩
          have h6 : offs l = true := by rw [h3', List.take_length] at ho; exact ho
          rw [show heardOk l = true by unfold heardOk; simp [h1', h2', h6]]
          exact .refl _
      · exact ⟨0, rfl, rfl, .cons rfl (.cons rfl (.cons rfl (.nil rfl)))⟩
  · have h1' : ¬ 1 ≤ l.length := by
      have := h1
      simp only [hlen, Bool.not_false, decide_eq_true_eq] at this
      omega
    refine o_guard rfl rfl rfl rfl (fun h => by rw [h1] at h; cases h) (fun _ => ?_)
    refine o_guard rfl rfl rfl rfl (fun h => by rw [h1] at h; cases h) (fun _ => ?_)
    refine o_pickT rfl rfl h1 ?_
    refine o_nil ?_
    refine k_cond rfl (fun h5 => ?_) (fun h5 => by cases h5)   -- slot 12
    refine k_seq ?_
    refine k_region ?_   -- region 2 rasp.go:142
    refine o_assign rfl ?_
    refine o_nil ?_
    refine k_ret ⟨.inr rfl, _, .cons _ _ _ _ (.tmp 2) .nil, ?_⟩
    rw [show heardOk l = false by unfold heardOk; simp [h1']]
    exact .refl _

abbrev bndU (a b lo hi : Int) : U := .agg [.int .i64 a, .int .i64 b, .int .i64 lo, .int .i64 hi]
theorem dat_bnd (a b lo hi : Int) (k : Nat) : Dat (k + 2) (bndU a b lo hi) := .agg _ _ fun c hc => by
  simp only [List.mem_cons, List.not_mem_nil, or_false] at hc
  rcases hc with rfl | rfl | rfl | rfl <;> exact .int _ _ _
-- 80 (saron/rasp.bounded).lies params [108] pure True
noncomputable def b80 : Code := (Try.f80.body).getD .skip
theorem body80 : bodyOf Try.prog 80 = some (26, b80, [.tmp 2]) := by kernel_rfl
theorem pure80 : pureFn Try.prog 80 = true := by kernel_rfl
theorem ret80 (hi80 : is 80 = false) (a b lo hi : Int) : RetP Try.prog is orc 80 [bndU a b lo hi] (.bool (decide (lo ≤ a) && decide (a ≤ b) && decide (b ≤ hi))) := by
  refine ret_of body80 pure80 hi80 rfl rfl (dat_one (dat_bnd _ _ _ _ _)) (.inl (.bool _ _)) ?_
  refine k_seq ?_
  refine k_region ?_   -- region 0 shop.go:24
  refine o_box rfl rfl ?_
  refine o_assign rfl ?_
  refine o_nil ?_
  refine k_seq ?_
  refine k_region ?_   -- region 1 shop.go:25
  first | refine o_faddr rfl rfl fld108_1 ?_ | refine o_faddrR rfl rfl fld108_1 ?_
  first | refine o_load1 rfl rfl rfl sh3 rfl ?_ | refine o_loadR1 rfl rfl sh3 rfl ?_
  first | refine o_faddr rfl rfl fld108_0 ?_ | refine o_faddrR rfl rfl fld108_0 ?_
  first | refine o_faddr rfl rfl fld24_0 ?_ | refine o_faddrR rfl rfl fld24_0 ?_
  first | refine o_load1 rfl rfl rfl sh3 rfl ?_ | refine o_loadR1 rfl rfl sh3 rfl ?_
  refine o_leq rfl rfl rfl ?_
  refine o_move rfl ?_
  refine o_guard rfl rfl rfl rfl (fun h1 => ?_) (fun h1 => ?_)   -- slot 9
  · first | refine o_faddr rfl rfl fld108_0 ?_ | refine o_faddrR rfl rfl fld108_0 ?_
    refine o_guard rfl rfl rfl rfl (fun _ => ?_) (fun h => by rw [h1] at h; cases h)
    first | refine o_faddr rfl rfl fld24_0 ?_ | refine o_faddrR rfl rfl fld24_0 ?_
    refine o_guard rfl rfl rfl rfl (fun _ => ?_) (fun h => by rw [h1] at h; cases h)
    first | refine o_load1 rfl rfl rfl sh3 rfl ?_ | refine o_loadR1 rfl rfl sh3 rfl ?_
    refine o_guard rfl rfl rfl rfl (fun _ => ?_) (fun h => by rw [h1] at h; cases h)
    first | refine o_faddr rfl rfl fld108_0 ?_ | refine o_faddrR rfl rfl fld108_0 ?_
    refine o_guard rfl rfl rfl rfl (fun _ => ?_) (fun h => by rw [h1] at h; cases h)
    first | refine o_faddr rfl rfl fld24_1 ?_ | refine o_faddrR rfl rfl fld24_1 ?_
    refine o_guard rfl rfl rfl rfl (fun _ => ?_) (fun h => by rw [h1] at h; cases h)
    first | refine o_load1 rfl rfl rfl sh3 rfl ?_ | refine o_loadR1 rfl rfl sh3 rfl ?_
    refine o_guard rfl rfl rfl rfl (fun _ => ?_) (fun h => by rw [h1] at h; cases h)
    refine o_leq rfl rfl rfl ?_
    refine o_pickT rfl rfl h1 ?_
    refine o_move rfl ?_
    refine o_guard rfl rfl rfl rfl (fun h2 => ?_) (fun h2 => ?_)   -- slot 18
    · first | refine o_faddr rfl rfl fld108_0 ?_ | refine o_faddrR rfl rfl fld108_0 ?_
      refine o_guard rfl rfl rfl rfl (fun _ => ?_) (fun h => by rw [h2] at h; cases h)
      first | refine o_faddr rfl rfl fld24_1 ?_ | refine o_faddrR rfl rfl fld24_1 ?_
      refine o_guard rfl rfl rfl rfl (fun _ => ?_) (fun h => by rw [h2] at h; cases h)
      first | refine o_load1 rfl rfl rfl sh3 rfl ?_ | refine o_loadR1 rfl rfl sh3 rfl ?_
      refine o_guard rfl rfl rfl rfl (fun _ => ?_) (fun h => by rw [h2] at h; cases h)
      first | refine o_faddr rfl rfl fld108_2 ?_ | refine o_faddrR rfl rfl fld108_2 ?_
      refine o_guard rfl rfl rfl rfl (fun _ => ?_) (fun h => by rw [h2] at h; cases h)
      first | refine o_load1 rfl rfl rfl sh3 rfl ?_ | refine o_loadR1 rfl rfl sh3 rfl ?_
      refine o_guard rfl rfl rfl rfl (fun _ => ?_) (fun h => by rw [h2] at h; cases h)
      refine o_leq rfl rfl rfl ?_
      refine o_pickT rfl rfl h2 ?_
      refine o_assign rfl ?_
      refine o_nil ?_
      refine k_ret ⟨.inr rfl, _, .cons _ _ _ _ (.tmp 2) .nil, ?_⟩
      rw [h1, h2]; exact .refl _
    · refine o_guard rfl rfl rfl rfl (fun h => by rw [h2] at h; cases h) (fun _ => ?_)
      refine o_guard rfl rfl rfl rfl (fun h => by rw [h2] at h; cases h) (fun _ => ?_)
      refine o_guard rfl rfl rfl rfl (fun h => by rw [h2] at h; cases h) (fun _ => ?_)
      refine o_guard rfl rfl rfl rfl (fun h => by rw [h2] at h; cases h) (fun _ => ?_)
      refine o_guard rfl rfl rfl rfl (fun h => by rw [h2] at h; cases h) (fun _ => ?_)
      refine o_pickF rfl rfl h2 ?_
      refine o_assign rfl ?_
      refine o_nil ?_
      refine k_ret ⟨.inr rfl, _, .cons _ _ _ _ (.tmp 2) .nil, ?_⟩
      rw [h1, h2]; exact .refl _
  · refine o_guard rfl rfl rfl rfl (fun h => by rw [h1] at h; cases h) (fun _ => ?_)
    refine o_guard rfl rfl rfl rfl (fun h => by rw [h1] at h; cases h) (fun _ => ?_)
    refine o_guard rfl rfl rfl rfl (fun h => by rw [h1] at h; cases h) (fun _ => ?_)
    refine o_guard rfl rfl rfl rfl (fun h => by rw [h1] at h; cases h) (fun _ => ?_)
    refine o_guard rfl rfl rfl rfl (fun h => by rw [h1] at h; cases h) (fun _ => ?_)
    refine o_guard rfl rfl rfl rfl (fun h => by rw [h1] at h; cases h) (fun _ => ?_)
    refine o_pickF rfl rfl h1 ?_
    refine o_move rfl ?_
    refine o_guard rfl rfl rfl rfl (fun h3 => by cases h3) (fun h3 => ?_)   -- slot 18
    refine o_guard rfl rfl rfl rfl (fun h => by rw [h3] at h; cases h) (fun _ => ?_)
    refine o_guard rfl rfl rfl rfl (fun h => by rw [h3] at h; cases h) (fun _ => ?_)
    refine o_guard rfl rfl rfl rfl (fun h => by rw [h3] at h; cases h) (fun _ => ?_)
    refine o_guard rfl rfl rfl rfl (fun h => by rw [h3] at h; cases h) (fun _ => ?_)
    refine o_guard rfl rfl rfl rfl (fun h => by rw [h3] at h; cases h) (fun _ => ?_)
    refine o_pickF rfl rfl h3 ?_
    refine o_assign rfl ?_
    refine o_nil ?_
    refine k_ret ⟨.inr rfl, _, .cons _ _ _ _ (.tmp 2) .nil, ?_⟩
    rw [h1]; exact .refl _

structure Bnd where
  a : Int
  b : Int
  lo : Int
  hi : Int
abbrev Bnd.u (q : Bnd) : U := bndU q.a q.b q.lo q.hi
def Bnd.ok (q : Bnd) : Bool := decide (q.lo ≤ q.a) && decide (q.a ≤ q.b) && decide (q.b ≤ q.hi)
abbrev bndsU (l : List Bnd) : List U := l.map Bnd.u
theorem dat_bnds (l : List Bnd) (kd : Kd) (hk : kd ≠ .own) (k : Nat) : Dat (k + 2) (.lst kd 4 (bndsU l)) := by
  refine .lst _ _ _ _ hk fun c hc => ?_
  obtain ⟨e, h1, h2⟩ := List.mem_flatMap.1 hc
  obtain ⟨q, _, rfl⟩ := List.mem_map.1 h1
  have h2 : c ∈ [U.int .i64 q.a, .int .i64 q.b, .int .i64 q.lo, .int .i64 q.hi] := h2
  simp only [List.mem_cons, List.not_mem_nil, or_false] at h2
  rcases h2 with rfl | rfl | rfl | rfl <;> exact .int _ _ _
theorem all_take {α : Type} {p : α → Bool} {l : List α} {n : Nat} {x : α} (h : l[n]? = some x) (h1 : (l.take n).all p = true) (h2 : p x = true) : (l.take (n + 1)).all p = true := by
  rw [List.take_add_one, List.all_append, h1, h]
  simpa using h2
theorem all_not {α : Type} {p : α → Bool} {l : List α} {n : Nat} {x : α} (h : l[n]? = some x) (h2 : p x = false) : l.all p = false := by
  rw [List.all_eq_false]
  exact ⟨x, List.mem_of_getElem? h, by simp [h2]⟩

noncomputable def b73 : Code := (Try.f73.body).getD .skip
theorem body73 : bodyOf Try.prog 73 = some (15, b73, [.tmp 2]) := by kernel_rfl
theorem pure73 : pureFn Try.prog 73 = true := by kernel_rfl
theorem ret73 (hi73 : is 73 = false) (hi80 : is 80 = false) (l : List Bnd) (hb : l.length ≤ 4096) : RetP Try.prog is orc 73 [.lst .ro 4 (bndsU l)] (.bool (l.all Bnd.ok)) := by
  refine ret_of body73 pure73 hi73 rfl rfl (dat_one (dat_bnds l .ro (fun h => by cases h) 6)) (.inl (.bool _ _)) ?_
  have hlen : (bndsU l).length = l.length := by simp
  refine k_seq ?_
  refine k_region ?_   -- region 0 shop.go:38
  refine o_assign rfl ?_
  refine o_nil ?_
  refine k_seq ?_
  refine k_seq ?_
  refine k_region ?_   -- region 1 shop.go:39
  refine o_move rfl ?_
  refine o_len rfl ty109 rfl rfl ?_
  refine o_move rfl ?_
  refine o_nil ?_
  refine k_block ?_
  -- LOOP 1
  refine k_loop (fun k s => ∃ n : Nat, k + n = l.length ∧ (l.take n).all Bnd.ok = true ∧ Holds s [(5, .lst .ro 4 (bndsU l)), (6, .int .i64 (bndsU l).length), (7, .int .i64 n)]) (fun k s hI => ?_) l.length _ ?_
  · obtain ⟨n, hk, ho, hs⟩ := hI
    rw [hs.eq]
    refine k_seq ?_
    refine k_region ?_   -- region 2 shop.go:39
    refine o_lss rfl rfl rfl ?_
    refine o_nil ?_
    refine k_seq ?_
    refine k_cond rfl (fun h1 => ?_) (fun h1 => ?_)   -- slot 8
    · have h3' : n < l.length := by
        have := h1
        simp only [hlen, decide_eq_true_eq] at this
        omega
      obtain ⟨q, hq⟩ : ∃ q, l[n]? = some q := ⟨l[n], List.getElem?_eq_getElem h3'⟩
      refine k_skip ?_
      refine k_seq ?_
      refine k_block ?_
      refine k_seq ?_
      refine k_region ?_   -- region 3 shop.go:39
      refine o_idx (u := q.u) rfl ty109 rfl rfl (Int.natCast_nonneg n) (by simp [hq]) cl108 ?_
      refine o_loadRN rfl rfl sh108 rfl ?_
      refine o_alloc rfl ze108 ?_
      refine o_storeN rfl (at_new _ _) sh108 rfl rfl rfl rfl rfl ?_
      refine o_nil ?_
      refine k_seq ?_
      refine k_region ?_   -- region 4 shop.go:40
      refine o_loadN rfl rfl (at_set _ _ _) sh108 rfl ?_
      refine o_call rfl (ret80 hi80 q.a q.b q.lo q.hi) (.lrefl _) ?_
      refine o_not rfl rfl ?_
      refine o_nil ?_
      refine k_cond rfl (fun h2 => ?_) (fun h2 => ?_)   -- slot 13
      · refine k_seq ?_
        refine k_region ?_   -- region 5 shop.go:41
        refine o_assign rfl ?_
        refine o_nil ?_
        refine k_ret ⟨.inr rfl, _, .cons _ _ _ _ (.tmp 2) .nil, ?_⟩
        have h5 : q.ok = false := (Bool.not_eq_true' _).mp h2
        rw [all_not hq h5]
        exact .refl _
      · refine k_skip ?_
        have h5 : q.ok = true := (Bool.not_eq_false' _).mp h2
        refine k_region ?_   -- region 6 shop.go:39
        refine o_add rfl rfl rfl (by unfold I64; omega) ?_
        refine o_move rfl ?_
        refine o_nil ?_
        exact ⟨k - 1, by omega, n + 1, by omega, all_take hq ho h5, .cons rfl (.cons rfl (.cons rfl (.nil rfl)))⟩
    · have h3' : n = l.length := by
        have := h1
        simp only [hlen, decide_eq_false_iff_not] at this
        omega
      refine k_exit ?_
      refine k_seq ?_
      refine k_region ?_   -- region 7 shop.go:44
      refine o_assign rfl ?_
      refine o_nil ?_
      refine k_ret ⟨.inr rfl, _, .cons _ _ _ _ (.tmp 2) .nil, ?_⟩
      have h6 : l.all Bnd.ok = true := by rw [h3', List.take_length] at ho; exact ho
      rw [h6]
      exact .refl _
  · exact ⟨0, rfl, rfl, .cons rfl (.cons rfl (.cons rfl (.nil rfl)))⟩

theorem by108 : Program.bytesOf Try.prog 108 = 32 := by kernel_rfl
theorem by3 : Program.bytesOf Try.prog 3 = 8 := by kernel_rfl
theorem by38 : Program.bytesOf Try.prog 38 = 24 := by kernel_rfl
theorem cl38 : Program.cellsOf Try.prog 38 = 1 := by kernel_rfl
theorem cl57 : Program.cellsOf Try.prog 57 = 3 := by kernel_rfl
theorem cl69 : Program.cellsOf Try.prog 69 = 3 := by kernel_rfl
theorem fld27_0 : fieldOf Try.prog 27 0 = some (0, 22) := by kernel_rfl
theorem fld27_1 : fieldOf Try.prog 27 1 = some (1, 24) := by kernel_rfl
theorem fld27_2 : fieldOf Try.prog 27 2 = some (3, 25) := by kernel_rfl
theorem fld57_0 : fieldOf Try.prog 57 0 = some (0, 24) := by kernel_rfl
theorem fld57_1 : fieldOf Try.prog 57 1 = some (2, 3) := by kernel_rfl
theorem fld69_0 : fieldOf Try.prog 69 0 = some (0, 24) := by kernel_rfl
theorem fld69_1 : fieldOf Try.prog 69 1 = some (2, 3) := by kernel_rfl
theorem fld75_0 : fieldOf Try.prog 75 0 = some (0, 27) := by kernel_rfl
theorem pl108 : plcOf Try.prog 108 = some [(0, 2), (2, 1), (3, 1)] := by kernel_rfl
theorem sh22 : shOf Try.prog 22 = .one := by kernel_rfl
theorem sh25 : shOf Try.prog 25 = .one := by kernel_rfl
theorem sh57 : shOf Try.prog 57 = .many 3 := by kernel_rfl
theorem sh69 : shOf Try.prog 69 = .many 3 := by kernel_rfl
theorem ty22 : tyOf Try.prog 22 = .slice 57 := by kernel_rfl
theorem ty25 : tyOf Try.prog 25 = .slice 69 := by kernel_rfl
theorem ty46 : tyOf Try.prog 46 = .slice 38 := by kernel_rfl
theorem ze3 : zeroL Try.prog 3 = some ((.cons (.int .i64 0) .nil) : V) := by kernel_rfl
theorem ze38 : zeroL Try.prog 38 = some ((.cons .nils .nil) : V) := by kernel_rfl
theorem ze57 : zeroL Try.prog 57 = some ((.cons (.int .i64 0) (.cons (.int .i64 0) (.cons (.int .i64 0) .nil))) : V) := by kernel_rfl
theorem ze69 : zeroL Try.prog 69 = some ((.cons (.int .i64 0) (.cons (.int .i64 0) (.cons (.int .i64 0) .nil))) : V) := by kernel_rfl
theorem ap109_109 : AppT Try.prog 109 109 108 4 32 ((.cons (.int .i64 0) (.cons (.int .i64 0) (.cons (.int .i64 0) (.cons (.int .i64 0) .nil)))) : V) := ⟨ty109, ⟨_, ty109⟩, cl108, by decide, by108, ze108, rfl⟩
theorem ap38_38 : AppT Try.prog 38 38 3 1 8 ((.cons (.int .i64 0) .nil) : V) := ⟨ty38, ⟨_, ty38⟩, cl3, by decide, by3, ze3, rfl⟩
theorem ap46_46 : AppT Try.prog 46 46 38 1 24 ((.cons .nils .nil) : V) := ⟨ty46, ⟨_, ty46⟩, cl38, by decide, by38, ze38, rfl⟩
structure Tri where
  a : Int
  b : Int
  c : Int
abbrev Tri.u (q : Tri) : U := .agg [.int .i64 q.a, .int .i64 q.b, .int .i64 q.c]
abbrev trisU (l : List Tri) : List U := l.map Tri.u
theorem dat_tris (l : List Tri) (kd : Kd) (hk : kd ≠ .own) (k : Nat) : Dat (k + 2) (.lst kd 3 (trisU l)) := by
  refine .lst _ _ _ _ hk fun c hc => ?_
  obtain ⟨e, h1, h2⟩ := List.mem_flatMap.1 hc
  obtain ⟨q, _, rfl⟩ := List.mem_map.1 h1
  have h2 : c ∈ [U.int .i64 q.a, .int .i64 q.b, .int .i64 q.c] := h2
  simp only [List.mem_cons, List.not_mem_nil, or_false] at h2
  rcases h2 with rfl | rfl | rfl <;> exact .int _ _ _
theorem flat2 (a b : Int) : FlatU (.agg [.int .i64 a, .int .i64 b]) := .agg _ fun c hc => by
  simp only [List.mem_cons, List.not_mem_nil, or_false] at hc
  rcases hc with rfl | rfl <;> exact .int _ _

noncomputable def b74 : Code := (Try.f74.body).getD .skip
theorem body74 : bodyOf Try.prog 74 = some (24, b74, [.tmp 2]) := by kernel_rfl
theorem pure74 : pureFn Try.prog 74 = true := by kernel_rfl
def bnds74 (l : List Tri) : List Bnd := l.flatMap fun q => [⟨q.a, q.b, (-30), 30⟩, ⟨q.c, q.c, 1, 10⟩]
theorem bnds74_len (l : List Tri) : (bnds74 l).length = 2 * l.length := by
  induction l with
  | nil => rfl
  | cons q l ih =>
    show (_ :: _ :: bnds74 l).length = _
    simp [ih]; omega
theorem bnds74_take {l : List Tri} {n : Nat} {q : Tri} (h : l[n]? = some q) : bndsU (bnds74 (l.take n)) ++ [bndU q.a q.b (-30) 30, bndU q.c q.c 1 10] = bndsU (bnds74 (l.take (n + 1))) := by
  unfold bnds74
  rw [List.take_add_one, h, List.flatMap_append]
  show _ = List.map Bnd.u (_ ++ _)
  rw [List.map_append]
  rfl
theorem ret74 (hi : is 74 = false) (h72 : is 72 = false) (l : List Tri) (hb : l.length ≤ 4096) : RetP Try.prog is orc 74 [.lst .ro 3 (trisU l)] (.lst .ro 4 (bndsU (bnds74 l))) := by
  refine ret_of body74 pure74 hi rfl rfl (dat_one (dat_tris l .ro (fun h => by cases h) 6)) (.inl (dat_bnds _ .ro (fun h => by cases h) 6)) ?_
  have hlen : (trisU l).length = l.length := by simp
  refine k_seq ?_
  refine k_region ?_
  refine o_assign rfl ?_
  refine o_nil ?_
  refine k_seq ?_
  refine k_region ?_
  refine o_assignN 4 rfl (fun _ => rfl) ?_
  refine o_nil ?_
  refine k_seq ?_
  refine k_seq ?_
  refine k_region ?_
  refine o_move rfl ?_
  refine o_len rfl ty22 rfl rfl ?_
  refine o_move rfl ?_
  refine o_nil ?_
  refine k_block ?_
  refine k_loop (fun k s => ∃ n : Nat, k + n = l.length ∧ Holds s [(6, .lst .ro 3 (trisU l)), (7, .int .i64 (trisU l).length), (8, .int .i64 n), (3, .lst .own 4 (bndsU (bnds74 (l.take n))))]) (fun k s hI => ?_) l.length _ ?_
  · obtain ⟨n, hk, hs⟩ := hI
    rw [hs.eq]
    refine k_seq ?_
    refine k_region ?_
    refine o_lss rfl rfl rfl ?_
    refine o_nil ?_
    refine k_seq ?_
    refine k_cond rfl (fun h1 => ?_) (fun h1 => ?_)
    · have h3' : n < l.length := by
        have := h1
        simp only [hlen, decide_eq_true_eq] at this
        omega
      obtain ⟨q, hq⟩ : ∃ q, l[n]? = some q := ⟨l[n], List.getElem?_eq_getElem h3'⟩
      refine k_skip ?_
      refine k_seq ?_
      refine k_block ?_
      refine k_seq ?_
      refine k_region ?_
      refine o_idx (u := q.u) rfl ty22 rfl rfl (Int.natCast_nonneg n) (by simp [hq]) cl57 ?_
      refine o_loadRN rfl rfl sh57 rfl ?_
      refine o_alloc rfl ze57 ?_
      refine o_storeN rfl (at_new _ _) sh57 rfl rfl rfl rfl rfl ?_
      refine o_nil ?_
      refine k_draw [.plain, .plain, .read true, .plain, .plain, .read true, .read false, .plain, .plain, .plain, .plain] (by kernel_rfl) (by kernel_rfl) (by kernel_rfl) ?_   -- region 5
      refine d_plain (o_move rfl (o_nil rfl)) ?_
      refine d_plain (o_faddr rfl rfl fld57_0 (o_nil rfl)) ?_
      refine d_load rfl (o_loadN rfl rfl (at_set _ _ _) sh24 rfl (o_nil rfl)) ?_
      refine d_plain (o_build rfl ze108 pl108 rfl rfl (o_nil rfl)) ?_
      refine d_plain (o_faddr rfl rfl fld57_1 (o_nil rfl)) ?_
      refine d_load rfl (o_load1 rfl rfl (at_set _ _ _) sh3 rfl (o_nil rfl)) ?_
      refine d_callR rfl (ret72 h72 q.c) (flat2 _ _) (.lrefl _) ?_
      refine d_plain (o_build rfl ze108 pl108 rfl rfl (o_nil rfl)) ?_
      refine d_plain (o_lit rfl ty109 ze108 cl108 rfl rfl rfl rfl rfl rfl rfl rfl (o_nil rfl)) ?_
      refine d_plain (o_appendS 3 rfl ap109_109 rfl rfl rfl (.inl rfl) (.inl rfl) rfl (by have := bnds74_len (l.take n); rw [List.length_take] at this; simp only [bndsU, List.length_map, this, List.length_cons, List.length_nil]; omega) (o_nil rfl)) ?_
      refine d_plain (o_assign rfl (o_nil rfl)) ?_
      refine d_nil ?_
      refine k_region ?_
      refine o_add rfl rfl rfl (by unfold I64; omega) ?_
      refine o_move rfl ?_
      refine o_nil ?_
      exact ⟨k - 1, by omega, n + 1, by omega, .cons rfl (.cons rfl (.cons rfl (.cons (congrArg (U.lst .own 4) (bnds74_take hq)) (.nil rfl))))⟩
    · have h3' : n = l.length := by
        have := h1
        simp only [hlen, decide_eq_false_iff_not] at this
        omega
      refine k_exit ?_
      refine k_seq ?_
      refine k_region ?_
      refine o_move rfl ?_
      refine o_assign rfl ?_
      refine o_nil ?_
      refine k_ret ⟨.inr rfl, _, .cons _ _ _ _ (.tmp 2) .nil, ?_⟩
      rw [h3', List.take_length]
      first | exact .refl _ | exact .ro _ _ _
  · exact ⟨0, rfl, .cons rfl (.cons rfl (.cons rfl (.cons rfl (.nil rfl))))⟩

noncomputable def b75 : Code := (Try.f75.body).getD .skip
theorem body75 : bodyOf Try.prog 75 = some (24, b75, [.tmp 2]) := by kernel_rfl
theorem pure75 : pureFn Try.prog 75 = true := by kernel_rfl
def bnds75 (l : List Tri) : List Bnd := l.flatMap fun q => [⟨q.a, q.b, (-60), 60⟩, ⟨q.c, q.c, 0, 30⟩]
theorem bnds75_len (l : List Tri) : (bnds75 l).length = 2 * l.length := by
  induction l with
  | nil => rfl
  | cons q l ih =>
    show (_ :: _ :: bnds75 l).length = _
    simp [ih]; omega
theorem bnds75_take {l : List Tri} {n : Nat} {q : Tri} (h : l[n]? = some q) : bndsU (bnds75 (l.take n)) ++ [bndU q.a q.b (-60) 60, bndU q.c q.c 0 30] = bndsU (bnds75 (l.take (n + 1))) := by
  unfold bnds75
  rw [List.take_add_one, h, List.flatMap_append]
  show _ = List.map Bnd.u (_ ++ _)
  rw [List.map_append]
  rfl
theorem ret75 (hi : is 75 = false) (h72 : is 72 = false) (l : List Tri) (hb : l.length ≤ 4096) : RetP Try.prog is orc 75 [.lst .ro 3 (trisU l)] (.lst .ro 4 (bndsU (bnds75 l))) := by
  refine ret_of body75 pure75 hi rfl rfl (dat_one (dat_tris l .ro (fun h => by cases h) 6)) (.inl (dat_bnds _ .ro (fun h => by cases h) 6)) ?_
  have hlen : (trisU l).length = l.length := by simp
  refine k_seq ?_
  refine k_region ?_
  refine o_assign rfl ?_
  refine o_nil ?_
  refine k_seq ?_
  refine k_region ?_
  refine o_assignN 4 rfl (fun _ => rfl) ?_
  refine o_nil ?_
  refine k_seq ?_
  refine k_seq ?_
  refine k_region ?_
  refine o_move rfl ?_
  refine o_len rfl ty25 rfl rfl ?_
  refine o_move rfl ?_
  refine o_nil ?_
  refine k_block ?_
  refine k_loop (fun k s => ∃ n : Nat, k + n = l.length ∧ Holds s [(6, .lst .ro 3 (trisU l)), (7, .int .i64 (trisU l).length), (8, .int .i64 n), (3, .lst .own 4 (bndsU (bnds75 (l.take n))))]) (fun k s hI => ?_) l.length _ ?_
  · obtain ⟨n, hk, hs⟩ := hI
    rw [hs.eq]
    refine k_seq ?_
    refine k_region ?_
    refine o_lss rfl rfl rfl ?_
    refine o_nil ?_
    refine k_seq ?_
    refine k_cond rfl (fun h1 => ?_) (fun h1 => ?_)
    · have h3' : n < l.length := by
        have := h1
        simp only [hlen, decide_eq_true_eq] at this
        omega
      obtain ⟨q, hq⟩ : ∃ q, l[n]? = some q := ⟨l[n], List.getElem?_eq_getElem h3'⟩
      refine k_skip ?_
      refine k_seq ?_
      refine k_block ?_
      refine k_seq ?_
      refine k_region ?_
      refine o_idx (u := q.u) rfl ty25 rfl rfl (Int.natCast_nonneg n) (by simp [hq]) cl69 ?_
      refine o_loadRN rfl rfl sh69 rfl ?_
      refine o_alloc rfl ze69 ?_
      refine o_storeN rfl (at_new _ _) sh69 rfl rfl rfl rfl rfl ?_
      refine o_nil ?_
      refine k_draw [.plain, .plain, .read true, .plain, .plain, .read true, .read false, .plain, .plain, .plain, .plain] (by kernel_rfl) (by kernel_rfl) (by kernel_rfl) ?_   -- region 5
      refine d_plain (o_move rfl (o_nil rfl)) ?_
      refine d_plain (o_faddr rfl rfl fld69_0 (o_nil rfl)) ?_
      refine d_load rfl (o_loadN rfl rfl (at_set _ _ _) sh24 rfl (o_nil rfl)) ?_
      refine d_plain (o_build rfl ze108 pl108 rfl rfl (o_nil rfl)) ?_
      refine d_plain (o_faddr rfl rfl fld69_1 (o_nil rfl)) ?_
      refine d_load rfl (o_load1 rfl rfl (at_set _ _ _) sh3 rfl (o_nil rfl)) ?_
      refine d_callR rfl (ret72 h72 q.c) (flat2 _ _) (.lrefl _) ?_
      refine d_plain (o_build rfl ze108 pl108 rfl rfl (o_nil rfl)) ?_
      refine d_plain (o_lit rfl ty109 ze108 cl108 rfl rfl rfl rfl rfl rfl rfl rfl (o_nil rfl)) ?_
      refine d_plain (o_appendS 3 rfl ap109_109 rfl rfl rfl (.inl rfl) (.inl rfl) rfl (by have := bnds75_len (l.take n); rw [List.length_take] at this; simp only [bndsU, List.length_map, this, List.length_cons, List.length_nil]; omega) (o_nil rfl)) ?_
      refine d_plain (o_assign rfl (o_nil rfl)) ?_
      refine d_nil ?_
      refine k_region ?_
      refine o_add rfl rfl rfl (by unfold I64; omega) ?_
      refine o_move rfl ?_
      refine o_nil ?_
      exact ⟨k - 1, by omega, n + 1, by omega, .cons rfl (.cons rfl (.cons rfl (.cons (congrArg (U.lst .own 4) (bnds75_take hq)) (.nil rfl))))⟩
    · have h3' : n = l.length := by
        have := h1
        simp only [hlen, decide_eq_false_iff_not] at this
        omega
      refine k_exit ?_
      refine k_seq ?_
      refine k_region ?_
      refine o_move rfl ?_
      refine o_assign rfl ?_
      refine o_nil ?_
      refine k_ret ⟨.inr rfl, _, .cons _ _ _ _ (.tmp 2) .nil, ?_⟩
      rw [h3', List.take_length]
      first | exact .refl _ | exact .ro _ _ _
  · exact ⟨0, rfl, .cons rfl (.cons rfl (.cons rfl (.cons rfl (.nil rfl))))⟩

def bnds0 (t k : List Tri) (lo hi : Int) : List Bnd := [⟨(trisU t).length, (trisU t).length, 1, 4⟩, ⟨(trisU k).length, (trisU k).length, 0, 6⟩, ⟨lo, hi, -60, 60⟩]
theorem bnds0_ok {t k : List Tri} {lo hi : Int} (h : (bnds0 t k lo hi).all Bnd.ok = true) : t.length ≤ 4 ∧ k.length ≤ 6 := by
  unfold bnds0 Bnd.ok at h
  simp at h
  omega
def valid (t k : List Tri) (lo hi : Int) : Bool := (bnds0 t k lo hi).all Bnd.ok && (bnds74 t).all Bnd.ok && (bnds75 k).all Bnd.ok
def checkR (t k : List Tri) (lo hi : Int) : Int := if valid t k lo hi then 0 else 30
theorem dat_shop (t k : List Tri) (lo hi : Int) (n : Nat) : Dat (n + 3) (shopU (trisU t) (trisU k) lo hi) := .agg _ _ fun c hc => by
  simp only [List.mem_cons, List.not_mem_nil, or_false] at hc
  rcases hc with rfl | rfl | rfl | rfl <;> first | exact .int _ _ _ | exact dat_tris _ _ (fun h => by cases h) _
-- 56 saron/rasp.isValid params [27] pure True
noncomputable def b56 : Code := (Try.f56.body).getD .skip
theorem body56 : bodyOf Try.prog 56 = some (32, b56, [.tmp 2]) := by kernel_rfl
theorem pure56 : pureFn Try.prog 56 = true := by kernel_rfl
theorem ret56 (h56 : is 56 = false) (h72 : is 72 = false) (h73 : is 73 = false) (h74 : is 74 = false) (h75 : is 75 = false) (h80 : is 80 = false) (t k : List Tri) (lo hi : Int) : RetP Try.prog is orc 56 [shopU (trisU t) (trisU k) lo hi] (.bool (valid t k lo hi)) := by
  refine ret_of body56 pure56 h56 rfl rfl (dat_one (dat_shop t k lo hi 5)) (.inl (.bool _ _)) ?_
  refine k_seq ?_
  refine k_region ?_   -- region 0 shop.go:28
  refine o_box rfl rfl ?_
  refine o_assign rfl ?_
  refine o_nil ?_
  refine k_seq ?_
  refine k_draw [.plain, .read true, .read true, .read false, .plain, .plain, .read true, .read true, .read false, .plain, .plain, .read true, .plain, .plain, .plain] (by kernel_rfl) (by kernel_rfl) (by kernel_rfl) ?_   -- region 1
  first | refine d_plain (o_faddr rfl rfl fld27_0 (o_nil rfl)) ?_ | refine d_plain (o_faddrR rfl rfl fld27_0 (o_nil rfl)) ?_
  first | refine d_load rfl (o_load1 rfl rfl rfl sh22 rfl (o_nil rfl)) ?_ | refine d_load rfl (o_loadR1 rfl rfl sh22 rfl (o_nil rfl)) ?_
  refine d_load rfl (o_len rfl ty22 rfl rfl (o_nil rfl)) ?_
  refine d_callR rfl (ret72 h72 _) (flat2 _ _) (.lrefl _) ?_
  refine d_plain (o_build rfl ze108 pl108 rfl rfl (o_nil rfl)) ?_
  first | refine d_plain (o_faddr rfl rfl fld27_2 (o_nil rfl)) ?_ | refine d_plain (o_faddrR rfl rfl fld27_2 (o_nil rfl)) ?_
  first | refine d_load rfl (o_load1 rfl rfl rfl sh25 rfl (o_nil rfl)) ?_ | refine d_load rfl (o_loadR1 rfl rfl sh25 rfl (o_nil rfl)) ?_
  refine d_load rfl (o_len rfl ty25 rfl rfl (o_nil rfl)) ?_
  refine d_callR rfl (ret72 h72 _) (flat2 _ _) (.lrefl _) ?_
  refine d_plain (o_build rfl ze108 pl108 rfl rfl (o_nil rfl)) ?_
  first | refine d_plain (o_faddr rfl rfl fld27_1 (o_nil rfl)) ?_ | refine d_plain (o_faddrR rfl rfl fld27_1 (o_nil rfl)) ?_
  first | refine d_load rfl (o_loadN rfl rfl rfl sh24 rfl (o_nil rfl)) ?_ | refine d_load rfl (o_loadRN rfl rfl sh24 rfl (o_nil rfl)) ?_
  refine d_plain (o_build rfl ze108 pl108 rfl rfl (o_nil rfl)) ?_
  refine d_plain (o_lit rfl ty109 ze108 cl108 rfl rfl rfl rfl rfl rfl rfl rfl (o_nil rfl)) ?_
  refine d_plain (o_assign rfl (o_nil rfl)) ?_
  refine d_nil ?_
  refine k_seq ?_
  refine k_region ?_   -- region 2 shop.go:35
  refine o_move rfl ?_
  refine o_call rfl (ret73 h73 h80 (bnds0 t k lo hi) (by show 3 ≤ 4096; omega)) (.lcons _ _ _ _ (.ro .full 4 _) (.lrefl _)) ?_
  refine o_move rfl ?_
  refine o_guard rfl rfl rfl rfl (fun h1 => ?_) (fun h1 => ?_)   -- slot 20
  · obtain ⟨ht, hk⟩ := bnds0_ok h1
    first | refine o_faddr rfl rfl fld27_0 ?_ | refine o_faddrR rfl rfl fld27_0 ?_
    refine o_guard rfl rfl rfl rfl (fun _ => ?_) (fun h => by rw [h1] at h; cases h)
    first | refine o_load1 rfl rfl rfl sh22 rfl ?_ | refine o_loadR1 rfl rfl sh22 rfl ?_
    refine o_guard rfl rfl rfl rfl (fun _ => ?_) (fun h => by rw [h1] at h; cases h)
    refine o_call rfl (ret74 h74 h72 t (by omega)) (.lrefl _) ?_
    refine o_guard rfl rfl rfl rfl (fun _ => ?_) (fun h => by rw [h1] at h; cases h)
    refine o_call rfl (ret73 h73 h80 _ (by rw [bnds74_len]; omega)) (.lrefl _) ?_
    refine o_pickT rfl rfl h1 ?_
    refine o_move rfl ?_
    refine o_guard rfl rfl rfl rfl (fun h2 => ?_) (fun h2 => ?_)   -- slot 26
    · first | refine o_faddr rfl rfl fld27_2 ?_ | refine o_faddrR rfl rfl fld27_2 ?_
      refine o_guard rfl rfl rfl rfl (fun _ => ?_) (fun h => by rw [h2] at h; cases h)
      first | refine o_load1 rfl rfl rfl sh25 rfl ?_ | refine o_loadR1 rfl rfl sh25 rfl ?_
      refine o_guard rfl rfl rfl rfl (fun _ => ?_) (fun h => by rw [h2] at h; cases h)
      refine o_call rfl (ret75 h75 h72 k (by omega)) (.lrefl _) ?_
      refine o_guard rfl rfl rfl rfl (fun _ => ?_) (fun h => by rw [h2] at h; cases h)
      refine o_call rfl (ret73 h73 h80 _ (by rw [bnds75_len]; omega)) (.lrefl _) ?_
      refine o_pickT rfl rfl h2 ?_
      refine o_assign rfl ?_
      refine o_nil ?_
      refine k_ret ⟨.inr rfl, _, .cons _ _ _ _ (.tmp 2) .nil, ?_⟩
      rw [show valid t k lo hi = (bnds75 k).all Bnd.ok by unfold valid; rw [h1, h2]; rfl]
      exact .refl _
    · refine o_guard rfl rfl rfl rfl (fun h => by rw [h2] at h; cases h) (fun _ => ?_)
      refine o_guard rfl rfl rfl rfl (fun h => by rw [h2] at h; cases h) (fun _ => ?_)
      refine o_guard rfl rfl rfl rfl (fun h => by rw [h2] at h; cases h) (fun _ => ?_)
      refine o_pickF rfl rfl h2 ?_
      refine o_assign rfl ?_
      refine o_nil ?_
      refine k_ret ⟨.inr rfl, _, .cons _ _ _ _ (.tmp 2) .nil, ?_⟩
      rw [show valid t k lo hi = false by unfold valid; rw [h1, h2]; rfl]
      exact .refl _
  · refine o_guard rfl rfl rfl rfl (fun h => by rw [h1] at h; cases h) (fun _ => ?_)
    refine o_guard rfl rfl rfl rfl (fun h => by rw [h1] at h; cases h) (fun _ => ?_)
    refine o_guard rfl rfl rfl rfl (fun h => by rw [h1] at h; cases h) (fun _ => ?_)
    refine o_pickF rfl rfl h1 ?_
    refine o_move rfl ?_
    refine o_guard rfl rfl rfl rfl (fun h3 => by cases h3) (fun h3 => ?_)   -- slot 26
    refine o_guard rfl rfl rfl rfl (fun h => by rw [h3] at h; cases h) (fun _ => ?_)
    refine o_guard rfl rfl rfl rfl (fun h => by rw [h3] at h; cases h) (fun _ => ?_)
    refine o_guard rfl rfl rfl rfl (fun h => by rw [h3] at h; cases h) (fun _ => ?_)
    refine o_pickF rfl rfl h3 ?_
    refine o_assign rfl ?_
    refine o_nil ?_
    refine k_ret ⟨.inr rfl, _, .cons _ _ _ _ (.tmp 2) .nil, ?_⟩
    rw [show valid t k lo hi = false by unfold valid; rw [h1]; rfl]
    exact .refl _


-- 17 saron/rasp.Check params [27] pure True
noncomputable def b17 : Code := (Try.f17.body).getD .skip
theorem body17 : bodyOf Try.prog 17 = some (6, b17, [.tmp 2]) := by kernel_rfl
theorem pure17 : pureFn Try.prog 17 = true := by kernel_rfl
theorem ret17 (h17 : is 17 = false) (h56 : is 56 = false) (h72 : is 72 = false) (h73 : is 73 = false) (h74 : is 74 = false) (h75 : is 75 = false) (h80 : is 80 = false) (t k : List Tri) (lo hi : Int) : RetP Try.prog is orc 17 [shopU (trisU t) (trisU k) lo hi] (.int .i64 (checkR t k lo hi)) := by
  refine ret_of body17 pure17 h17 rfl rfl (dat_one (dat_shop t k lo hi 5)) (.inl (.int _ _ _)) ?_
  refine k_seq ?_
  refine k_region ?_   -- region 0 rasp.go:10
  refine o_box rfl rfl ?_
  refine o_assign rfl ?_
  refine o_nil ?_
  refine k_seq ?_
  refine k_seq ?_
  refine k_region ?_   -- region 1 rasp.go:11
  first | refine o_loadN rfl rfl rfl sh27 rfl ?_ | refine o_loadRN rfl rfl sh27 rfl ?_
  refine o_call rfl (ret56 h56 h72 h73 h74 h75 h80 t k lo hi) (.lrefl _) ?_
  refine o_not rfl rfl ?_
  refine o_nil ?_
  refine k_cond rfl (fun h1 => ?_) (fun h1 => ?_)   -- slot 5
  · refine k_seq ?_
    refine k_region ?_   -- region 2 rasp.go:12
    refine o_assign rfl ?_
    refine o_nil ?_
    refine k_ret ⟨.inr rfl, _, .cons _ _ _ _ (.tmp 2) .nil, ?_⟩
    have h2 : valid t k lo hi = false := (Bool.not_eq_true' _).mp h1
    rw [show checkR t k lo hi = 30 by unfold checkR; rw [h2]; rfl]
    exact .refl _
  · refine k_skip ?_
    refine k_seq ?_
    refine k_region ?_   -- region 3 rasp.go:14
    refine o_assign rfl ?_
    refine o_nil ?_
    refine k_ret ⟨.inr rfl, _, .cons _ _ _ _ (.tmp 2) .nil, ?_⟩
    have h2 : valid t k lo hi = true := (Bool.not_eq_false' _).mp h1
    rw [show checkR t k lo hi = 0 by unfold checkR; rw [h2]; rfl]
    exact .refl _

noncomputable def b66 : Code := (Try.f66.body).getD .skip
theorem body66 : bodyOf Try.prog 66 = some (15, b66, [.tmp 4]) := by kernel_rfl
theorem pure66 : pureFn Try.prog 66 = true := by kernel_rfl
theorem ret66 (h66 : is 66 = false) (lo up n : Int) : RetP Try.prog is orc 66 [.agg [.int .i64 lo, .int .i64 up], .int .i64 n] (.bool (decide (lo ≤ n) && decide (n ≤ up))) := by
  refine ret_of body66 pure66 h66 rfl rfl ?_ (.inl (.bool _ _)) ?_
  · intro u hu
    simp only [List.mem_cons, List.not_mem_nil, or_false] at hu
    rcases hu with rfl | rfl
    · refine .agg _ _ fun c hc => ?_
      simp only [List.mem_cons, List.not_mem_nil, or_false] at hc
      rcases hc with rfl | rfl <;> exact .int _ _ _
    · exact .int _ _ _
  refine k_seq (k_region ?_)
  refine o_box rfl rfl ?_
  refine o_assign rfl ?_
  refine o_nil ?_
  refine k_seq (k_region ?_)
  refine o_faddr rfl rfl fld24_0 ?_
  refine o_load1 rfl rfl rfl sh3 rfl ?_
  refine o_move rfl ?_
  refine o_leq rfl rfl rfl ?_
  refine o_move rfl ?_
  refine o_guard rfl rfl rfl rfl (fun hc => ?_) (fun hc => ?_)
  · refine o_move rfl ?_
    refine o_guard rfl rfl rfl rfl (fun _ => ?_) (fun h => by rw [hc] at h; cases h)
    refine o_faddr rfl rfl fld24_1 ?_
    refine o_guard rfl rfl rfl rfl (fun _ => ?_) (fun h => by rw [hc] at h; cases h)
    refine o_load1 rfl rfl rfl sh3 rfl ?_
    refine o_guard rfl rfl rfl rfl (fun _ => ?_) (fun h => by rw [hc] at h; cases h)
    refine o_leq rfl rfl rfl ?_
    refine o_pickT rfl rfl hc ?_
    refine o_assign rfl ?_
    refine o_nil ?_
    refine k_ret ⟨.inr rfl, _, .cons _ _ _ _ (.tmp 4) .nil, ?_⟩
    rw [hc]
    exact .refl _
  · refine o_guard rfl rfl rfl rfl (fun h => by rw [hc] at h; cases h) (fun _ => ?_)
    refine o_guard rfl rfl rfl rfl (fun h => by rw [hc] at h; cases h) (fun _ => ?_)
    refine o_guard rfl rfl rfl rfl (fun h => by rw [hc] at h; cases h) (fun _ => ?_)
    refine o_pickF rfl rfl hc ?_
    refine o_assign rfl ?_
    refine o_nil ?_
    refine k_ret ⟨.inr rfl, _, .cons _ _ _ _ (.tmp 4) .nil, ?_⟩
    rw [hc]
    exact .refl _

def Tri.has (q : Tri) (m : Int) : Bool := decide (q.a ≤ m) && decide (m ≤ q.b)
def hit (t : List Tri) (m : Int) (i : Nat) : Bool := match t[i]? with
  | some q => q.has m
  | none => false
def hits (t : List Tri) (m : Int) (n : Nat) : List Int := ((List.range n).filter (hit t m)).map (fun i : Nat => (i : Int))
theorem hits_len (t : List Tri) (m : Int) (n : Nat) : (hits t m n).length ≤ n := by
  unfold hits
  rw [List.length_map]
  exact Nat.le_trans (List.length_filter_le _ _) (by simp)
theorem hits_in {t : List Tri} {m : Int} {n : Nat} {q : Tri} (h : t[n]? = some q) (h2 : (decide (q.a ≤ m) && decide (m ≤ q.b)) = true) : intsU (hits t m n) ++ [.int .i64 (n : Int)] = intsU (hits t m (n + 1)) := by
  have e : hit t m n = true := by unfold hit; rw [h]; exact h2
  unfold hits
  rw [List.range_succ, List.filter_append, List.map_append, List.filter_cons_of_pos e]
  simp [intsU]
theorem hits_out {t : List Tri} {m : Int} {n : Nat} {q : Tri} (h : t[n]? = some q) (h2 : (decide (q.a ≤ m) && decide (m ≤ q.b)) = false) : intsU (hits t m n) = intsU (hits t m (n + 1)) := by
  have e : ¬ hit t m n = true := by unfold hit; rw [h]; show ¬ (decide (q.a ≤ m) && decide (m ≤ q.b)) = true; rw [h2]; simp
  unfold hits
  rw [List.range_succ, List.filter_append, List.map_append, List.filter_cons_of_neg e]
  simp [intsU]
-- 69 (saron/rasp.shop).toolsOf params [75, 3] pure False
noncomputable def b69 : Code := (Try.f69.body).getD .skip
theorem body69 : bodyOf Try.prog 69 = some (34, b69, [.tmp 4]) := by kernel_rfl
theorem pure69 : pureFn Try.prog 69 = false := by kernel_rfl
theorem ret69 (h66 : is 66 = false) (t k : List Tri) (lo hi m : Int) (hb : t.length ≤ 4096) : RetP Try.prog is orc 69 [shopF (trisU t) (trisU k) lo hi chooseU chooseU, .int .i64 m] (.lst .ro 1 (intsU (hits t m t.length))) := by
  refine ret_of_shared body69 pure69 rfl rfl ?_ (dat_ints 6 .ro (fun h => by cases h) 1 _).nb ?_
  · intro u hu
    simp only [List.mem_cons, List.not_mem_nil, or_false] at hu
    rcases hu with rfl | rfl
    · exact ⟨nb_shopF (dat_tris _ _ (fun h => by cases h) 6).nb (dat_tris _ _ (fun h => by cases h) 6).nb nb_choose nb_choose, NoOwn.agg _⟩
    · exact ⟨NB.int _ _, NoOwn.int _ _⟩
  have hlen : (trisU t).length = t.length := by simp
  refine k_seq ?_
  refine k_region ?_   -- region 0 shop.go:105
  refine o_box rfl rfl ?_
  refine o_assign rfl ?_
  refine o_nil ?_
  refine k_seq ?_
  refine k_region ?_   -- region 1 shop.go:106
  refine o_assignN 1 rfl (fun _ => rfl) ?_
  refine o_nil ?_
  refine k_seq ?_
  refine k_seq ?_
  refine k_region ?_   -- region 2 shop.go:107
  first | refine o_faddr rfl rfl fld75_0 ?_ | refine o_faddrR rfl rfl fld75_0 ?_
  first | refine o_faddr rfl rfl fld27_0 ?_ | refine o_faddrR rfl rfl fld27_0 ?_
  first | refine o_load1 rfl rfl rfl sh22 rfl ?_ | refine o_loadR1 rfl rfl sh22 rfl ?_
  refine o_len rfl ty22 rfl rfl ?_
  refine o_move rfl ?_
  refine o_nil ?_
  refine k_block ?_
  -- LOOP 1
  refine k_loop (fun j s => ∃ n : Nat, j + n = t.length ∧ s.st[0]? = some (.box [.lst .ro 3 (trisU t), .int .i64 lo, .int .i64 hi, .lst .ro 3 (trisU k), chooseU, chooseU]) ∧ Holds s [(1, .int .i64 m), (2, .box 0 0), (10, .int .i64 (trisU t).length), (11, .int .i64 n), (5, .lst .own 1 (intsU (hits t m n)))]) (fun j s hI => ?_) t.length _ ?_
  · obtain ⟨n, hj, hst, hs⟩ := hI
    rw [hs.eq]
    refine k_seq ?_
    refine k_region ?_   -- region 3 shop.go:107
    refine o_lss rfl rfl rfl ?_
    refine o_nil ?_
    refine k_seq ?_
    refine k_cond rfl (fun h1 => ?_) (fun h1 => ?_)   -- slot 12
    · have h3' : n < t.length := by
        have := h1
        simp only [hlen, decide_eq_true_eq] at this
        omega
      obtain ⟨q, hq⟩ : ∃ q, t[n]? = some q := ⟨t[n], List.getElem?_eq_getElem h3'⟩
      refine k_skip ?_
      refine k_seq ?_
      refine k_block ?_
      refine k_seq ?_
      refine k_region ?_   -- region 4 shop.go:107
      refine o_move rfl ?_
      refine o_assign rfl ?_
      refine o_nil ?_
      refine k_seq ?_
      refine k_region ?_   -- region 5 shop.go:108
      first | refine o_faddr rfl rfl fld75_0 ?_ | refine o_faddrR rfl rfl fld75_0 ?_
      first | refine o_faddr rfl rfl fld27_0 ?_ | refine o_faddrR rfl rfl fld27_0 ?_
      refine o_load1 rfl rfl hst sh22 rfl ?_
      refine o_move rfl ?_
      refine o_idx (u := q.u) rfl ty22 rfl rfl (Int.natCast_nonneg n) (by simp [hq]) cl57 ?_
      first | refine o_faddr rfl rfl fld57_0 ?_ | refine o_faddrR rfl rfl fld57_0 ?_
      first | refine o_loadN rfl rfl rfl sh24 rfl ?_ | refine o_loadRN rfl rfl sh24 rfl ?_
      refine o_move rfl ?_
      refine o_call rfl (ret66 h66 q.a q.b m) (.lrefl _) ?_
      refine o_nil ?_
      refine k_cond rfl (fun h2 => ?_) (fun h2 => ?_)   -- slot 22
      · refine k_region ?_   -- region 6 shop.go:109
        refine o_move rfl ?_
        refine o_move rfl ?_
        refine o_lit rfl ty38 ze3 cl3 rfl rfl rfl rfl rfl rfl rfl rfl ?_
        refine o_appendS 5 rfl ap38_38 rfl rfl rfl (.inl rfl) (.inl rfl) rfl (by have := hits_len t m n; simp only [intsU, List.length_map, List.length_cons, List.length_nil]; omega) ?_
        refine o_assign rfl ?_
        refine o_nil ?_
        refine k_region ?_   -- region 7 shop.go:107
        refine o_add rfl rfl rfl (by unfold I64; omega) ?_
        refine o_move rfl ?_
        refine o_nil ?_
        exact ⟨j - 1, by omega, n + 1, by omega, hst, .cons rfl (.cons rfl (.cons rfl (.cons rfl (.cons (congrArg (U.lst .own 1) (hits_in hq h2)) (.nil rfl)))))⟩
      · refine k_skip ?_
        refine k_region ?_   -- region 7 shop.go:107
        refine o_add rfl rfl rfl (by unfold I64; omega) ?_
        refine o_move rfl ?_
        refine o_nil ?_
        exact ⟨j - 1, by omega, n + 1, by omega, hst, .cons rfl (.cons rfl (.cons rfl (.cons rfl (.cons (congrArg (U.lst .own 1) (hits_out hq h2)) (.nil rfl)))))⟩
    · have h3' : n = t.length := by
        have := h1
        simp only [hlen, decide_eq_false_iff_not] at this
        omega
      refine k_exit ?_
      refine k_seq ?_
      refine k_region ?_   -- region 8 shop.go:112
      refine o_move rfl ?_
      refine o_move rfl ?_
      refine o_len rfl ty38 rfl rfl ?_
      refine o_move rfl ?_
      refine o_len rfl ty38 rfl rfl ?_
      refine o_slice0 rfl ty38 cl3 rfl (.inl rfl) rfl rfl (Nat.le_refl _) ?_
      refine o_assign rfl ?_
      refine o_nil ?_
      refine k_ret ⟨.inr rfl, _, .cons _ _ _ _ (.tmp 4) .nil, ?_⟩
      rw [List.take_length, h3']
      exact .ro _ _ _
  · exact ⟨0, rfl, rfl, .cons rfl (.cons rfl (.cons rfl (.cons rfl (.cons rfl (.nil rfl)))))⟩

def stepL (t : List Tri) (h : List Int) (i : Nat) : List Int := hits t ((h[i + 1]?).getD 0 - (h[i]?).getD 0) t.length
abbrev rowsU (t : List Tri) (h : List Int) (n : Nat) : List U := (List.range n).map fun i => .lst .ro 1 (intsU (stepL t h i))
open Classical in
noncomputable def strokesR (t : List Tri) (h : List Int) : U := if ∀ i, i < h.length - 1 → stepL t h i ≠ [] then .tup [.lst .ro 1 (rowsU t h (h.length - 1)), .int .i64 0] else .tup [.lst .ro 1 [], .int .i64 4]
theorem offs_get {l : List Int} {n : Nat} {x : Int} (h : offs l = true) (hx : l[n]? = some x) : -60 ≤ x ∧ x ≤ 60 := by
  have := List.all_eq_true.1 h x (List.mem_of_getElem? hx)
  simpa using this
theorem rows_next {t : List Tri} {h : List Int} {n : Nat} {l : List Int} (e : stepL t h n = l) : rowsU t h n ++ [.lst .ro 1 (intsU l)] = rowsU t h (n + 1) := by
  subst e
  show _ = List.map _ (List.range (n + 1))
  rw [List.range_succ, List.map_append]; rfl
theorem dat_nil (k : Nat) (kd : Kd) (hk : kd ≠ .own) : Dat (k + 1) (.lst kd 1 []) := .lst _ _ _ _ hk fun c hc => by cases hc
theorem dat_rows (t : List Tri) (h : List Int) (n k : Nat) : Dat (k + 3) (.lst .ro 1 (rowsU t h n)) := by
  refine .lst _ _ _ _ (fun h => by cases h) fun c hc => ?_
  obtain ⟨e, h1, h2⟩ := List.mem_flatMap.1 hc
  obtain ⟨i, _, rfl⟩ := List.mem_map.1 h1
  have h2 : c ∈ [U.lst .ro 1 (intsU (stepL t h i))] := h2
  simp only [List.mem_cons, List.not_mem_nil, or_false] at h2
  subst h2; exact dat_ints _ _ (fun h => by cases h) _ _
theorem dat_two {a b : U} (ha : Dat 7 a) (hb : Dat 7 b) : DatR (.tup [a, b]) := .inr ⟨_, rfl, fun c hc => by
  simp only [List.mem_cons, List.not_mem_nil, or_false] at hc
  rcases hc with rfl | rfl <;> assumption⟩
theorem dat_strokes (t : List Tri) (h : List Int) : DatR (strokesR t h) := by
  unfold strokesR
  split
  · exact dat_two (dat_rows _ _ _ 4) (.int _ _ _)
  · exact dat_two (dat_nil _ _ (fun h => by cases h)) (.int _ _ _)
theorem dat_told (t k : List Tri) (lo hi : Int) (h : List Int) : ∀ u ∈ [shopU (trisU t) (trisU k) lo hi, .lst .ro 1 (intsU h)], Dat 8 u := fun u hu => by
  simp only [List.mem_cons, List.not_mem_nil, or_false] at hu
  rcases hu with rfl | rfl
  · exact dat_shop t k lo hi 5
  · exact dat_ints 6 .ro (fun h => by cases h) 1 h
-- 33 saron/rasp.Told params [27, 38] pure True
noncomputable def b33 : Code := (Try.f33.body).getD .skip
theorem body33 : bodyOf Try.prog 33 = some (53, b33, [.tmp 4, .tmp 5]) := by kernel_rfl
theorem pure33 : pureFn Try.prog 33 = true := by kernel_rfl
theorem ret33_err (h33 : is 33 = false) (h68 : is 68 = false) (h50 : is 50 = false) (t k : List Tri) (lo hi : Int) (h : List Int) {e : Int} (he : e ≠ 0)
    (hask : RetP Try.prog is orc 49 [shopU (trisU t) (trisU k) lo hi, .bool (heardOk h)] (.tup [shopZ, .int .i64 e])) : RetP Try.prog is orc 33 [shopU (trisU t) (trisU k) lo hi, .lst .ro 1 (intsU h)] (.tup [.lst .ro 1 [], .int .i64 e]) := by
  refine ret_of body33 pure33 h33 rfl rfl (dat_told t k lo hi h) (dat_two (dat_nil _ _ (fun h => by cases h)) (.int _ _ _)) ?_
  refine k_seq ?_
  refine k_region ?_   -- region 0 rasp.go:105
  refine o_box rfl rfl ?_
  refine o_assign rfl ?_
  refine o_assign rfl ?_
  refine o_nil ?_
  refine k_seq ?_
  refine k_draw [.read true, .plain, .read false, .quiet, .plain, .plain, .plain, .pre, .plain, .plain] (by kernel_rfl) (by kernel_rfl) (by kernel_rfl) ?_   -- region 1
  first | refine d_load rfl (o_loadN rfl rfl rfl sh27 rfl (o_nil rfl)) ?_ | refine d_load rfl (o_loadRN rfl rfl sh27 rfl (o_nil rfl)) ?_
  refine d_plain (o_move rfl (o_nil rfl)) ?_
  refine d_callR rfl (ret68 h68 h50 h) (.bool _) (.lrefl _) ?_
  refine d_callQ rfl hask (.lrefl _) ?_
  refine d_plain (o_move rfl (o_nil rfl)) ?_
  refine d_plain (o_extract rfl rfl rfl (o_nil rfl)) ?_
  refine d_plain (o_extract rfl rfl rfl (o_nil rfl)) ?_
  refine d_pre rfl ze75 ?_
  refine d_plain (o_storeN rfl rfl sh75 rfl rfl rfl rfl rfl (o_nil rfl)) ?_
  refine d_plain (o_assign rfl (o_nil rfl)) ?_
  refine d_nil ?_
  refine k_seq ?_
  refine k_seq ?_
  refine k_region ?_   -- region 2 rasp.go:107
  refine o_move rfl ?_
  refine o_neq rfl rfl rfl ?_
  refine o_nil ?_
  refine k_cond rfl (fun h1 => ?_) (fun h1 => by simp [he] at h1)   -- slot 19
  refine k_seq ?_
  refine k_region ?_   -- region 3 rasp.go:108
  refine o_move rfl ?_
  refine o_assign rfl ?_
  refine o_assign rfl ?_
  refine o_nil ?_
  refine k_ret ⟨.inr rfl, _, .cons _ _ _ _ (.tmp 4) (.cons _ _ _ _ (.tmp 5) .nil), ?_⟩
  exact .tup _ _ (.lcons _ _ _ _ (.nil _ _ _) (.lrefl _))

theorem ret33_ok (h33 : is 33 = false) (h68 : is 68 = false) (h50 : is 50 = false) (h66 : is 66 = false) (t k : List Tri) (lo hi : Int) (h : List Int) (ht : t.length ≤ 4096) (hl1 : 1 ≤ h.length) (hl2 : h.length ≤ 31) (ho : offs h = true)
    (hask : RetP Try.prog is orc 49 [shopU (trisU t) (trisU k) lo hi, .bool (heardOk h)] (.tup [shopF (trisU t) (trisU k) lo hi chooseU chooseU, .int .i64 0])) : RetP Try.prog is orc 33 [shopU (trisU t) (trisU k) lo hi, .lst .ro 1 (intsU h)] (strokesR t h) := by
  refine ret_of body33 pure33 h33 rfl rfl (dat_told t k lo hi h) (dat_strokes t h) ?_
  have hlen : (intsU h).length = h.length := by simp
  refine k_seq ?_
  refine k_region ?_   -- region 0 rasp.go:105
  refine o_box rfl rfl ?_
  refine o_assign rfl ?_
  refine o_assign rfl ?_
  refine o_nil ?_
  refine k_seq ?_
  refine k_draw [.read true, .plain, .read false, .quiet, .plain, .plain, .plain, .pre, .plain, .plain] (by kernel_rfl) (by kernel_rfl) (by kernel_rfl) ?_   -- region 1
  first | refine d_load rfl (o_loadN rfl rfl rfl sh27 rfl (o_nil rfl)) ?_ | refine d_load rfl (o_loadRN rfl rfl sh27 rfl (o_nil rfl)) ?_
  refine d_plain (o_move rfl (o_nil rfl)) ?_
  refine d_callR rfl (ret68 h68 h50 h) (.bool _) (.lrefl _) ?_
  refine d_callQ rfl hask (.lrefl _) ?_
  refine d_plain (o_move rfl (o_nil rfl)) ?_
  refine d_plain (o_extract rfl rfl rfl (o_nil rfl)) ?_
  refine d_plain (o_extract rfl rfl rfl (o_nil rfl)) ?_
  refine d_pre rfl ze75 ?_
  refine d_plain (o_storeN rfl rfl sh75 rfl rfl rfl rfl rfl (o_nil rfl)) ?_
  refine d_plain (o_assign rfl (o_nil rfl)) ?_
  refine d_nil ?_
  refine k_seq ?_
  refine k_seq ?_
  refine k_region ?_   -- region 2 rasp.go:107
  refine o_move rfl ?_
  refine o_neq rfl rfl rfl ?_
  refine o_nil ?_
  refine k_cond rfl (fun h1 => by cases h1) (fun h1 => ?_)   -- slot 19
  refine k_skip ?_
  refine k_seq ?_
  refine k_region ?_   -- region 4 rasp.go:110
  refine o_assignN 1 rfl (fun _ => rfl) ?_
  refine o_nil ?_
  refine k_seq ?_
  refine k_seq ?_
  refine k_region ?_   -- region 5 rasp.go:111
  refine o_move rfl ?_
  refine o_len rfl ty38 rfl rfl ?_
  refine o_sub rfl rfl rfl (by unfold I64; rw [hlen]; omega) ?_
  refine o_move rfl ?_
  refine o_nil ?_
  refine k_block ?_
  -- LOOP 1
  refine k_loop (fun j s => ∃ n : Nat, j + n = h.length - 1 ∧ (∀ i, i < n → stepL t h i ≠ []) ∧ s.st[1]? = some (.box [.lst .ro 3 (trisU t), .int .i64 lo, .int .i64 hi, .lst .ro 3 (trisU k), chooseU, chooseU]) ∧ Holds s [(1, .lst .ro 1 (intsU h)), (6, .box 1 0), (23, .int .i64 ((intsU h).length - 1 : Int)), (24, .int .i64 n), (8, .lst .own 1 (rowsU t h n))]) (fun j s hI => ?_) (h.length - 1) _ ?_
  · obtain ⟨n, hj, hne, hst, hs⟩ := hI
    rw [hs.eq]
    refine k_seq ?_
    refine k_region ?_   -- region 6 rasp.go:111
    refine o_lss rfl rfl rfl ?_
    refine o_nil ?_
    refine k_seq ?_
    refine k_cond rfl (fun h2 => ?_) (fun h2 => ?_)   -- slot 25
    · have h3' : n < h.length - 1 := by
        have := h2
        simp only [hlen, decide_eq_true_eq] at this
        omega
      obtain ⟨x, hx⟩ : ∃ x, h[n]? = some x := ⟨h[n], List.getElem?_eq_getElem (by omega)⟩
      obtain ⟨y, hy⟩ : ∃ y, h[n + 1]? = some y := ⟨h[n + 1], List.getElem?_eq_getElem (by omega)⟩
      have bx := offs_get ho hx
      have bY := offs_get ho hy
      have hstep : stepL t h n = hits t (y - x) t.length := by unfold stepL; rw [hx, hy]; rfl
      refine k_skip ?_
      refine k_seq ?_
      refine k_block ?_
      refine k_seq ?_
      refine k_region ?_   -- region 7 rasp.go:111
      refine o_move rfl ?_
      refine o_assign rfl ?_
      refine o_nil ?_
      refine k_seq ?_
      refine k_draw [.read true, .plain, .plain, .plain, .plain, .read true, .plain, .plain, .plain, .read true, .plain, .plain, .plain] (by kernel_rfl) (by kernel_rfl) (by kernel_rfl) ?_   -- region 8
      refine d_load rfl (o_loadN rfl rfl hst sh75 rfl (o_nil rfl)) ?_
      refine d_plain (o_move rfl (o_nil rfl)) ?_
      refine d_plain (o_move rfl (o_nil rfl)) ?_
      refine d_plain (o_add rfl rfl rfl (by unfold I64; omega) (o_nil rfl)) ?_
      refine d_plain (o_idx (u := .int .i64 y) rfl ty38 rfl rfl (by omega) (by rw [show ((n : Int) + 1).toNat = n + 1 by omega]; simp [hy]) cl3 (o_nil rfl)) ?_
      first | refine d_load rfl (o_load1 rfl rfl rfl sh3 rfl (o_nil rfl)) ?_ | refine d_load rfl (o_loadR1 rfl rfl sh3 rfl (o_nil rfl)) ?_
      refine d_plain (o_move rfl (o_nil rfl)) ?_
      refine d_plain (o_move rfl (o_nil rfl)) ?_
      refine d_plain (o_idx (u := .int .i64 x) rfl ty38 rfl rfl (Int.natCast_nonneg n) (by simp [hx]) cl3 (o_nil rfl)) ?_
      first | refine d_load rfl (o_load1 rfl rfl rfl sh3 rfl (o_nil rfl)) ?_ | refine d_load rfl (o_loadR1 rfl rfl sh3 rfl (o_nil rfl)) ?_
      refine d_plain (o_sub rfl rfl rfl (by unfold I64; omega) (o_nil rfl)) ?_
      refine d_plain (o_call rfl (ret69 h66 t k lo hi (y - x) ht) (.lrefl _) (o_nil rfl)) ?_
      refine d_plain (o_assign rfl (o_nil rfl)) ?_
      refine d_nil ?_
      refine k_seq ?_
      refine k_seq ?_
      refine k_region ?_   -- region 9 rasp.go:113
      refine o_move rfl ?_
      refine o_len rfl ty38 rfl rfl ?_
      refine o_eql rfl rfl rfl ?_
      refine o_nil ?_
      refine k_cond rfl (fun h3 => ?_) (fun h3 => ?_)   -- slot 41
      · refine k_seq ?_
        refine k_region ?_   -- region 10 rasp.go:114
        refine o_assign rfl ?_
        refine o_assign rfl ?_
        refine o_nil ?_
        refine k_ret ⟨.inr rfl, _, .cons _ _ _ _ (.tmp 4) (.cons _ _ _ _ (.tmp 5) .nil), ?_⟩
        have h4 : stepL t h n = [] := by
          rw [hstep]
          have := h3
          simp only [decide_eq_true_eq, intsU, List.length_map] at this
          exact List.length_eq_zero_iff.1 (by omega)
        rw [show strokesR t h = .tup [.lst .ro 1 [], .int .i64 4] from if_neg (fun hall => hall n h3' h4)]
        exact .tup _ _ (.lcons _ _ _ _ (.nil _ _ _) (.lrefl _))
      · refine k_skip ?_
        refine k_region ?_   -- region 11 rasp.go:116
        refine o_move rfl ?_
        refine o_move rfl ?_
        refine o_lit rfl ty46 ze38 cl38 rfl rfl rfl rfl rfl rfl rfl rfl ?_
        refine o_appendS 8 rfl ap46_46 rfl rfl rfl (.inl rfl) (.inl rfl) rfl (by simp only [rowsU, List.length_map, List.length_range, List.length_cons, List.length_nil]; omega) ?_
        refine o_assign rfl ?_
        refine o_nil ?_
        refine k_region ?_   -- region 12 rasp.go:111
        refine o_add rfl rfl rfl (by unfold I64; omega) ?_
        refine o_move rfl ?_
        refine o_nil ?_
        have h4 : stepL t h n ≠ [] := by
          rw [hstep]
          intro e
          have := h3
          simp only [decide_eq_false_iff_not, intsU, List.length_map, e] at this
          exact this rfl
        exact ⟨j - 1, by omega, n + 1, by omega, fun i hi => if e : i = n then e ▸ h4 else hne i (by omega), hst, .cons rfl (.cons rfl (.cons rfl (.cons rfl (.cons (congrArg (U.lst .own 1) (rows_next hstep)) (.nil rfl)))))⟩
    · refine k_exit ?_
      refine k_seq ?_
      refine k_region ?_   -- region 13 rasp.go:118
      refine o_move rfl ?_
      refine o_move rfl ?_
      refine o_len rfl ty46 rfl rfl ?_
      refine o_move rfl ?_
      refine o_len rfl ty46 rfl rfl ?_
      refine o_slice0 rfl ty46 cl38 rfl (.inl rfl) rfl rfl (Nat.le_refl _) ?_
      refine o_assign rfl ?_
      refine o_assign rfl ?_
      refine o_nil ?_
      refine k_ret ⟨.inr rfl, _, .cons _ _ _ _ (.tmp 4) (.cons _ _ _ _ (.tmp 5) .nil), ?_⟩
      have h4 : n = h.length - 1 := by
          have := h2
          simp only [hlen, decide_eq_false_iff_not] at this
          omega
      rw [show strokesR t h = .tup [.lst .ro 1 (rowsU t h (h.length - 1)), .int .i64 0] from if_pos (by rw [← h4]; exact hne)]
      rw [List.take_length, h4]
      exact .tup _ _ (.lcons _ _ _ _ (.ro _ _ _) (.lrefl _))
  · exact ⟨0, rfl, fun i hi => absurd hi (Nat.not_lt_zero i), rfl, .cons rfl (.cons rfl (.cons rfl (.cons rfl (.cons rfl (.nil rfl)))))⟩
end Go.Proofs.Ytolfmdodgfjhdaa.raspTolds
