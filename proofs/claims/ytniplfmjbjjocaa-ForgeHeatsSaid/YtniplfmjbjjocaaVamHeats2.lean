/- forge's Heats, the law's own functions and the law, by the logic of trees. -/
import Derived.Test.YtniplfmjbjjocaaVamHeats1
namespace Go.Proofs.Ytniplfmjbjjocaa.forgeHeats
open Vam
set_option linter.unusedVariables false
set_option linter.unusedSimpArgs false
set_option linter.constructorNameAsVariable false
variable {is : FuncId → Bool} {orc : Known}
theorem cl3 : Program.cellsOf Try.prog 3 = 1 := by kernel_rfl
theorem fld28_1 : fieldOf Try.prog 28 1 = some (1, 24) := by kernel_rfl
theorem fld28_2 : fieldOf Try.prog 28 2 = some (3, 3) := by kernel_rfl
theorem fld28_3 : fieldOf Try.prog 28 3 = some (4, 3) := by kernel_rfl
theorem fld28_4 : fieldOf Try.prog 28 4 = some (5, 24) := by kernel_rfl
theorem fld28_6 : fieldOf Try.prog 28 6 = some (8, 3) := by kernel_rfl
theorem fld28_7 : fieldOf Try.prog 28 7 = some (9, 3) := by kernel_rfl
theorem fld28_8 : fieldOf Try.prog 28 8 = some (10, 24) := by kernel_rfl
theorem fld28_9 : fieldOf Try.prog 28 9 = some (12, 3) := by kernel_rfl
theorem fld73_0 : fieldOf Try.prog 73 0 = some (0, 28) := by kernel_rfl
theorem fld73_1 : fieldOf Try.prog 73 1 = some (14, 70) := by kernel_rfl
theorem pl73 : plcOf Try.prog 73 = some [(0, 14), (14, 4), (18, 1)] := by kernel_rfl
theorem sh28 : shOf Try.prog 28 = .many 14 := by kernel_rfl
theorem sh73 : shOf Try.prog 73 = .many 19 := by kernel_rfl
theorem ty70 : tyOf Try.prog 70 = .array 4 3 := by kernel_rfl
theorem ze73 : zeroL Try.prog 73 = some ((.cons .nils (.cons (.int .i64 0) (.cons (.int .i64 0) (.cons (.int .i64 0) (.cons (.int .i64 0) (.cons (.int .i64 0) (.cons (.int .i64 0) (.cons .nils (.cons (.int .i64 0) (.cons (.int .i64 0) (.cons (.int .i64 0) (.cons (.int .i64 0) (.cons (.int .i64 0) (.cons .nils (.cons (.int .i64 0) (.cons (.int .i64 0) (.cons (.int .i64 0) (.cons (.int .i64 0) (.cons .nils .nil))))))))))))))))))) : V) := by kernel_rfl
def bnds0 (b : Bk) : List Bnd := [⟨(trisU b.lots).length, (trisU b.lots).length, 1, 4⟩, ⟨(twosU b.thins).length, (twosU b.thins).length, 3, 3⟩, ⟨(trisU b.looks).length, (trisU b.looks).length, 0, 8⟩, ⟨b.tlo, b.thi, 0, 1000⟩, ⟨b.thick, b.thick, 1, 3000⟩, ⟨b.crack, b.crack, 0, 3000⟩, ⟨b.glo, b.ghi, 0, 3000⟩, ⟨b.hot, b.hot, 0, 1500⟩, ⟨b.least, b.least, 0, b.hot⟩, ⟨b.clo, b.chi, 1, 300⟩, ⟨b.coal, b.coal, 0, 100⟩]
def valid (b : Bk) : Bool := (bnds0 b).all Bnd.ok && (bndsL b).all Bnd.ok
structure Ok0 (b : Bk) : Prop where
  nl : 1 ≤ b.lots.length ∧ b.lots.length ≤ 4
  nt : b.thins.length = 3
  nk : b.looks.length ≤ 8
  tin : 0 ≤ b.tlo ∧ b.tlo ≤ b.thi ∧ b.thi ≤ 1000
  thick : 1 ≤ b.thick ∧ b.thick ≤ 3000
  crack : 0 ≤ b.crack ∧ b.crack ≤ 3000
  goal : 0 ≤ b.glo ∧ b.glo ≤ b.ghi ∧ b.ghi ≤ 3000
  hot : 0 ≤ b.hot ∧ b.hot ≤ 1500
  least : 0 ≤ b.least ∧ b.least ≤ b.hot
  cool : 1 ≤ b.clo ∧ b.clo ≤ b.chi ∧ b.chi ≤ 300
  coal : 0 ≤ b.coal ∧ b.coal ≤ 100
theorem ok0_of {b : Bk} (h : (bnds0 b).all Bnd.ok = true) : Ok0 b := by
  unfold bnds0 Bnd.ok at h
  simp at h
  obtain ⟨h1, h2, h3, h4, h5, h6, h7, h8, h9, h10, h11⟩ := h
  exact ⟨by omega, by omega, by omega, by omega, by omega, by omega, by omega, by omega, by omega, by omega, by omega⟩
structure Ok (b : Bk) : Prop extends Ok0 b where
  lots : ∀ q ∈ b.lots, 0 ≤ q.a ∧ q.a ≤ 6 ∧ 0 ≤ q.b ∧ q.b ≤ q.c ∧ q.c ≤ 1000
  thins : ∀ q ∈ b.thins, 1 ≤ q.a ∧ q.a ≤ q.b ∧ q.b ≤ 20
  looks : ∀ q ∈ b.looks, 0 ≤ q.a ∧ q.a ≤ 300 ∧ 0 ≤ q.b ∧ q.b ≤ 3000 ∧ 0 ≤ q.c ∧ q.c ≤ 50
theorem valid_ok {b : Bk} (h : valid b = true) : Ok b := by
  unfold valid at h
  rw [Bool.and_eq_true] at h
  obtain ⟨h1, h2⟩ := h
  unfold bndsL at h2
  rw [List.all_append, List.all_append, Bool.and_eq_true, Bool.and_eq_true, List.all_flatMap, List.all_flatMap, List.all_flatMap, List.all_eq_true, List.all_eq_true, List.all_eq_true] at h2
  refine ⟨ok0_of h1, fun q hq => ?_, fun q hq => ?_, fun q hq => ?_⟩
  · have := h2.1.1 q hq
    simp [bnd1, Bnd.ok] at this; omega
  · have := h2.1.2 q hq
    simp [bnd2, Bnd.ok] at this; omega
  · have := h2.2 q hq
    simp [bnd3, Bnd.ok] at this; omega
theorem ok_valid {b : Bk} (h : Ok b) : valid b = true := by
  obtain ⟨⟨a1, a2, a3, a4, a5, a6, a7, a8, a9, a10, a11⟩, h1, h2, h3⟩ := h
  unfold valid
  rw [Bool.and_eq_true]
  refine ⟨?_, ?_⟩
  · unfold bnds0 Bnd.ok
    simp; omega
  · unfold bndsL
    rw [List.all_append, List.all_append, Bool.and_eq_true, Bool.and_eq_true, List.all_flatMap, List.all_flatMap, List.all_flatMap, List.all_eq_true, List.all_eq_true, List.all_eq_true]
    refine ⟨⟨fun q hq => ?_, fun q hq => ?_⟩, fun q hq => ?_⟩
    · have := h1 q hq
      simp [bnd1, Bnd.ok]; omega
    · have := h2 q hq
      simp [bnd2, Bnd.ok]; omega
    · have := h3 q hq
      simp [bnd3, Bnd.ok]; omega
theorem bndsL_len {b : Bk} (h1 : b.lots.length ≤ 4) (h2 : b.thins.length = 3) (h3 : b.looks.length ≤ 8) : (bndsL b).length ≤ 35 := by
  unfold bndsL
  simp only [List.length_append]
  have l1 := flat_le bnd1 2 (fun _ => rfl) b.lots b.lots.length
  have l2 := flat_le bnd2 1 (fun _ => rfl) b.thins b.thins.length
  have l3 := flat_le bnd3 3 (fun _ => rfl) b.looks b.looks.length
  rw [List.take_length] at l1 l2 l3
  omega
def checkR (b : Bk) : Int := if valid b then 0 else 20

-- 43 saron/forge.isValid params [28] pure True
noncomputable def b43 : Code := (Try.f43.body).getD .skip
theorem body43 : bodyOf Try.prog 43 = some (58, b43, [.tmp 2]) := by kernel_rfl
theorem pure43 : pureFn Try.prog 43 = true := by kernel_rfl
set_option maxHeartbeats 4000000 in
theorem ret43 (hi : Off is) (b : Bk) : RetP Try.prog is orc 43 [b.u] (.bool (valid b)) := by
  refine ret_of body43 pure43 (hi 43 (by decide)) rfl rfl (dat_l1 (dat_bk b 5)) (.inl (.bool _ _)) ?_
  refine k_seq ?_
  refine k_region ?_   -- region 0 book.go:42
  refine o_box rfl rfl ?_
  refine o_assign rfl ?_
  refine o_nil ?_
  refine k_seq ?_
  refine k_draw [.plain, .read true, .read true, .read false, .plain, .plain, .read true, .read true, .read false, .plain, .plain, .read true, .read true, .read false, .plain, .plain, .read true, .plain, .plain, .read true, .read false, .plain, .plain, .read true, .read false, .plain, .plain, .read true, .plain, .plain, .read true, .read false, .plain, .plain, .read true, .read false, .plain, .read true, .plain, .plain, .read true, .plain, .plain, .read true, .read false, .plain, .plain, .plain] (by kernel_rfl) (by kernel_rfl) (by kernel_rfl) ?_   -- region 1
  first | refine d_plain (o_faddr rfl rfl fld28_0 (o_nil rfl)) ?_ | refine d_plain (o_faddrR rfl rfl fld28_0 (o_nil rfl)) ?_
  first | refine d_load rfl (o_load1 rfl rfl rfl sh22 rfl (o_nil rfl)) ?_ | refine d_load rfl (o_loadR1 rfl rfl sh22 rfl (o_nil rfl)) ?_
  refine d_load rfl (o_len rfl ty22 rfl rfl (o_nil rfl)) ?_
  refine d_callR rfl (ret54 hi ((trisU b.lots).length : Int)) (flat_span _ _) (.lrefl _) ?_
  refine d_plain (o_build (cs := [.int .i64 ((trisU b.lots).length : Int), .int .i64 ((trisU b.lots).length : Int), .int .i64 1, .int .i64 4]) rfl ze97 pl97 rfl rfl (o_nil rfl)) ?_
  first | refine d_plain (o_faddr rfl rfl fld28_5 (o_nil rfl)) ?_ | refine d_plain (o_faddrR rfl rfl fld28_5 (o_nil rfl)) ?_
  first | refine d_load rfl (o_load1 rfl rfl rfl sh25 rfl (o_nil rfl)) ?_ | refine d_load rfl (o_loadR1 rfl rfl sh25 rfl (o_nil rfl)) ?_
  refine d_load rfl (o_len rfl ty25 rfl rfl (o_nil rfl)) ?_
  refine d_callR rfl (ret54 hi ((twosU b.thins).length : Int)) (flat_span _ _) (.lrefl _) ?_
  refine d_plain (o_build (cs := [.int .i64 ((twosU b.thins).length : Int), .int .i64 ((twosU b.thins).length : Int), .int .i64 3, .int .i64 3]) rfl ze97 pl97 rfl rfl (o_nil rfl)) ?_
  first | refine d_plain (o_faddr rfl rfl fld28_10 (o_nil rfl)) ?_ | refine d_plain (o_faddrR rfl rfl fld28_10 (o_nil rfl)) ?_
  first | refine d_load rfl (o_load1 rfl rfl rfl sh26 rfl (o_nil rfl)) ?_ | refine d_load rfl (o_loadR1 rfl rfl sh26 rfl (o_nil rfl)) ?_
  refine d_load rfl (o_len rfl ty26 rfl rfl (o_nil rfl)) ?_
  refine d_callR rfl (ret54 hi ((trisU b.looks).length : Int)) (flat_span _ _) (.lrefl _) ?_
  refine d_plain (o_build (cs := [.int .i64 ((trisU b.looks).length : Int), .int .i64 ((trisU b.looks).length : Int), .int .i64 0, .int .i64 8]) rfl ze97 pl97 rfl rfl (o_nil rfl)) ?_
  first | refine d_plain (o_faddr rfl rfl fld28_1 (o_nil rfl)) ?_ | refine d_plain (o_faddrR rfl rfl fld28_1 (o_nil rfl)) ?_
  first | refine d_load rfl (o_loadN rfl rfl rfl sh24 rfl (o_nil rfl)) ?_ | refine d_load rfl (o_loadRN rfl rfl sh24 rfl (o_nil rfl)) ?_
  refine d_plain (o_build (cs := [.int .i64 b.tlo, .int .i64 b.thi, .int .i64 0, .int .i64 1000]) rfl ze97 pl97 rfl rfl (o_nil rfl)) ?_
  first | refine d_plain (o_faddr rfl rfl fld28_2 (o_nil rfl)) ?_ | refine d_plain (o_faddrR rfl rfl fld28_2 (o_nil rfl)) ?_
  first | refine d_load rfl (o_load1 rfl rfl rfl sh3 rfl (o_nil rfl)) ?_ | refine d_load rfl (o_loadR1 rfl rfl sh3 rfl (o_nil rfl)) ?_
  refine d_callR rfl (ret54 hi b.thick) (flat_span _ _) (.lrefl _) ?_
  refine d_plain (o_build (cs := [.int .i64 b.thick, .int .i64 b.thick, .int .i64 1, .int .i64 3000]) rfl ze97 pl97 rfl rfl (o_nil rfl)) ?_
  first | refine d_plain (o_faddr rfl rfl fld28_3 (o_nil rfl)) ?_ | refine d_plain (o_faddrR rfl rfl fld28_3 (o_nil rfl)) ?_
  first | refine d_load rfl (o_load1 rfl rfl rfl sh3 rfl (o_nil rfl)) ?_ | refine d_load rfl (o_loadR1 rfl rfl sh3 rfl (o_nil rfl)) ?_
  refine d_callR rfl (ret54 hi b.crack) (flat_span _ _) (.lrefl _) ?_
  refine d_plain (o_build (cs := [.int .i64 b.crack, .int .i64 b.crack, .int .i64 0, .int .i64 3000]) rfl ze97 pl97 rfl rfl (o_nil rfl)) ?_
  first | refine d_plain (o_faddr rfl rfl fld28_4 (o_nil rfl)) ?_ | refine d_plain (o_faddrR rfl rfl fld28_4 (o_nil rfl)) ?_
  first | refine d_load rfl (o_loadN rfl rfl rfl sh24 rfl (o_nil rfl)) ?_ | refine d_load rfl (o_loadRN rfl rfl sh24 rfl (o_nil rfl)) ?_
  refine d_plain (o_build (cs := [.int .i64 b.glo, .int .i64 b.ghi, .int .i64 0, .int .i64 3000]) rfl ze97 pl97 rfl rfl (o_nil rfl)) ?_
  first | refine d_plain (o_faddr rfl rfl fld28_6 (o_nil rfl)) ?_ | refine d_plain (o_faddrR rfl rfl fld28_6 (o_nil rfl)) ?_
  first | refine d_load rfl (o_load1 rfl rfl rfl sh3 rfl (o_nil rfl)) ?_ | refine d_load rfl (o_loadR1 rfl rfl sh3 rfl (o_nil rfl)) ?_
  refine d_callR rfl (ret54 hi b.hot) (flat_span _ _) (.lrefl _) ?_
  refine d_plain (o_build (cs := [.int .i64 b.hot, .int .i64 b.hot, .int .i64 0, .int .i64 1500]) rfl ze97 pl97 rfl rfl (o_nil rfl)) ?_
  first | refine d_plain (o_faddr rfl rfl fld28_7 (o_nil rfl)) ?_ | refine d_plain (o_faddrR rfl rfl fld28_7 (o_nil rfl)) ?_
  first | refine d_load rfl (o_load1 rfl rfl rfl sh3 rfl (o_nil rfl)) ?_ | refine d_load rfl (o_loadR1 rfl rfl sh3 rfl (o_nil rfl)) ?_
  refine d_callR rfl (ret54 hi b.least) (flat_span _ _) (.lrefl _) ?_
  first | refine d_plain (o_faddr rfl rfl fld28_6 (o_nil rfl)) ?_ | refine d_plain (o_faddrR rfl rfl fld28_6 (o_nil rfl)) ?_
  first | refine d_load rfl (o_load1 rfl rfl rfl sh3 rfl (o_nil rfl)) ?_ | refine d_load rfl (o_loadR1 rfl rfl sh3 rfl (o_nil rfl)) ?_
  refine d_plain (o_build (cs := [.int .i64 b.least, .int .i64 b.least, .int .i64 0, .int .i64 b.hot]) rfl ze97 pl97 rfl rfl (o_nil rfl)) ?_
  first | refine d_plain (o_faddr rfl rfl fld28_8 (o_nil rfl)) ?_ | refine d_plain (o_faddrR rfl rfl fld28_8 (o_nil rfl)) ?_
  first | refine d_load rfl (o_loadN rfl rfl rfl sh24 rfl (o_nil rfl)) ?_ | refine d_load rfl (o_loadRN rfl rfl sh24 rfl (o_nil rfl)) ?_
  refine d_plain (o_build (cs := [.int .i64 b.clo, .int .i64 b.chi, .int .i64 1, .int .i64 300]) rfl ze97 pl97 rfl rfl (o_nil rfl)) ?_
  first | refine d_plain (o_faddr rfl rfl fld28_9 (o_nil rfl)) ?_ | refine d_plain (o_faddrR rfl rfl fld28_9 (o_nil rfl)) ?_
  first | refine d_load rfl (o_load1 rfl rfl rfl sh3 rfl (o_nil rfl)) ?_ | refine d_load rfl (o_loadR1 rfl rfl sh3 rfl (o_nil rfl)) ?_
  refine d_callR rfl (ret54 hi b.coal) (flat_span _ _) (.lrefl _) ?_
  refine d_plain (o_build (cs := [.int .i64 b.coal, .int .i64 b.coal, .int .i64 0, .int .i64 100]) rfl ze97 pl97 rfl rfl (o_nil rfl)) ?_
  refine d_plain (o_lit (es := bndsU (bnds0 b)) rfl ty98 ze97 cl97 rfl rfl rfl rfl rfl rfl rfl rfl (o_nil rfl)) ?_
  refine d_plain (o_assign rfl (o_nil rfl)) ?_
  refine d_nil ?_
  refine k_seq ?_
  refine k_region ?_   -- region 2 book.go:57
  refine o_move rfl ?_
  refine o_call rfl (ret59 hi (bnds0 b) (by show 11 ≤ 4096; omega)) (.lcons _ _ _ _ (.ro .full 4 _) (.lrefl _)) ?_
  refine o_move rfl ?_
  refine o_guard rfl rfl rfl rfl (fun h1 => ?_) (fun h1 => ?_)   -- slot 53
  · have hk := ok0_of h1
    first | refine o_loadN rfl rfl rfl sh28 rfl ?_ | refine o_loadRN rfl rfl sh28 rfl ?_
    refine o_guard rfl rfl rfl rfl (fun _ => ?_) (fun h => by rw [h1] at h; cases h)
    refine o_call rfl (ret60 hi b hk.nl.2 hk.nt hk.nk) (.lrefl _) ?_
    refine o_guard rfl rfl rfl rfl (fun _ => ?_) (fun h => by rw [h1] at h; cases h)
    refine o_call rfl (ret59 hi _ (by have := bndsL_len hk.nl.2 hk.nt hk.nk; omega)) (.lrefl _) ?_
    refine o_pickT rfl rfl h1 ?_
    refine o_assign rfl ?_
    refine o_nil ?_
    refine k_ret ?_
    refine ⟨.inr rfl, _, .cons _ _ _ _ (.tmp 2) .nil, ?_⟩
    rw [show valid b = (bndsL b).all Bnd.ok by unfold valid; rw [h1]; rfl]; exact .refl _
  · refine o_guard rfl rfl rfl rfl (fun h => by rw [h1] at h; cases h) (fun _ => ?_)
    refine o_guard rfl rfl rfl rfl (fun h => by rw [h1] at h; cases h) (fun _ => ?_)
    refine o_pickF rfl rfl h1 ?_
    refine o_assign rfl ?_
    refine o_nil ?_
    refine k_ret ?_
    refine ⟨.inr rfl, _, .cons _ _ _ _ (.tmp 2) .nil, ?_⟩
    rw [show valid b = false by unfold valid; rw [h1]; rfl]; exact .refl _

-- 24 saron/forge.Check params [28] pure True
noncomputable def b24 : Code := (Try.f24.body).getD .skip
theorem body24 : bodyOf Try.prog 24 = some (6, b24, [.tmp 2]) := by kernel_rfl
theorem pure24 : pureFn Try.prog 24 = true := by kernel_rfl
set_option maxHeartbeats 4000000 in
theorem ret24 (hi : Off is) (b : Bk) : RetP Try.prog is orc 24 [b.u] (.int .i64 (checkR b)) := by
  refine ret_of body24 pure24 (hi 24 (by decide)) rfl rfl (dat_l1 (dat_bk b 5)) (.inl (.int _ _ _)) ?_
  refine k_seq ?_
  refine k_region ?_   -- region 0 forge.go:11
  refine o_box rfl rfl ?_
  refine o_assign rfl ?_
  refine o_nil ?_
  refine k_seq ?_
  refine k_seq ?_
  refine k_region ?_   -- region 1 forge.go:12
  first | refine o_loadN rfl rfl rfl sh28 rfl ?_ | refine o_loadRN rfl rfl sh28 rfl ?_
  refine o_call rfl (ret43 hi b) (.lrefl _) ?_
  refine o_not rfl rfl ?_
  refine o_nil ?_
  refine k_cond rfl (fun h1 => ?_) (fun h1 => ?_)   -- slot 5
  · refine k_seq ?_
    refine k_region ?_   -- region 2 forge.go:13
    refine o_assign rfl ?_
    refine o_nil ?_
    refine k_ret ?_
    refine ⟨.inr rfl, _, .cons _ _ _ _ (.tmp 2) .nil, ?_⟩
    have e : valid b = false := (Bool.not_eq_true' _).mp h1
    rw [show checkR b = 20 by unfold checkR; rw [e]; rfl]; exact .refl _
  · refine k_skip ?_
    refine k_seq ?_
    refine k_region ?_   -- region 3 forge.go:15
    refine o_assign rfl ?_
    refine o_nil ?_
    refine k_ret ?_
    refine ⟨.inr rfl, _, .cons _ _ _ _ (.tmp 2) .nil, ?_⟩
    have e : valid b = true := (Bool.not_eq_false' _).mp h1
    rw [show checkR b = 0 by unfold checkR; rw [e]; rfl]; exact .refl _

def stk (b : Bk) (n i : Nat) : Int := if i < n then ((b.lots[i]?).map Tri.a).getD 0 else 0
abbrev bkN (b : Bk) (n : Nat) : List U := [.lst .ro 3 (trisU b.lots), .int .i64 b.tlo, .int .i64 b.thi, .int .i64 b.thick, .int .i64 b.crack, .int .i64 b.glo, .int .i64 b.ghi, .lst .ro 2 (twosU b.thins), .int .i64 b.hot, .int .i64 b.least, .int .i64 b.clo, .int .i64 b.chi, .int .i64 b.coal, .lst .ro 3 (trisU b.looks), .int .i64 (stk b n 0), .int .i64 (stk b n 1), .int .i64 (stk b n 2), .int .i64 (stk b n 3), .lst .full 0 []]
abbrev bkF (b : Bk) : U := .agg (bkN b b.lots.length)
theorem dat_bkF (b : Bk) (n : Nat) : Dat (n + 3) (bkF b) := .agg _ _ fun c hc => by
  simp only [List.mem_cons, List.not_mem_nil, or_false] at hc
  rcases hc with rfl | rfl | rfl | rfl | rfl | rfl | rfl | rfl | rfl | rfl | rfl | rfl | rfl | rfl | rfl | rfl | rfl | rfl | rfl <;> first | exact .int _ _ _ | exact dat_tris _ _ (fun h => by cases h) _ | exact dat_twos _ _ (fun h => by cases h) _ | exact .lst _ _ _ _ (fun h => by cases h) (fun c hc => by cases hc)
theorem stk_set (b : Bk) {n : Nat} {q : Tri} (hq : b.lots[n]? = some q) (hn : n < 4) : (bkN b n).set (14 + n) (.int .i64 q.a) = bkN b (n + 1) := by
  have e : n = 0 ∨ n = 1 ∨ n = 2 ∨ n = 3 := by omega
  rcases e with rfl | rfl | rfl | rfl <;> simp [bkN, stk, hq]

-- 50 saron/forge.newBook params [28] pure True
noncomputable def b50 : Code := (Try.f50.body).getD .skip
theorem body50 : bodyOf Try.prog 50 = some (24, b50, [.cell 2 73]) := by kernel_rfl
theorem pure50 : pureFn Try.prog 50 = true := by kernel_rfl
set_option maxHeartbeats 4000000 in
theorem ret50 (hi : Off is) (b : Bk) (hb : b.lots.length ≤ 4) : RetP Try.prog is orc 50 [b.u] (bkF b) := by
  refine ret_of body50 pure50 (hi 50 (by decide)) rfl rfl (dat_l1 (dat_bk b 5)) (.inl (dat_bkF b 5)) ?_
  refine k_seq ?_
  refine k_region ?_   -- region 0 book.go:18
  refine o_box rfl rfl ?_
  refine o_alloc rfl ze73 ?_
  refine o_nil ?_
  refine k_seq ?_
  refine k_region ?_   -- region 1 book.go:19
  first | refine o_loadN rfl rfl rfl sh28 rfl ?_ | refine o_loadRN rfl rfl sh28 rfl ?_
  refine o_build rfl ze73 pl73 rfl rfl ?_
  refine o_alloc rfl ze73 ?_
  refine o_storeN rfl rfl sh73 rfl rfl rfl rfl rfl ?_
  refine o_nil ?_
  refine k_seq ?_
  refine k_seq ?_
  refine k_region ?_   -- region 2 book.go:20
  first | refine o_faddr rfl rfl fld28_0 ?_ | refine o_faddrR rfl rfl fld28_0 ?_
  first | refine o_load1 rfl rfl rfl sh22 rfl ?_ | refine o_loadR1 rfl rfl sh22 rfl ?_
  refine o_len rfl ty22 rfl rfl ?_
  refine o_move rfl ?_
  refine o_nil ?_
  refine k_block ?_
  -- LOOP 1
  refine k_loop (fun k s => ∃ n : Nat, k + n = b.lots.length ∧ s.st[0]? = some (.box b.cs) ∧ (∃ c1 : List U, s.st[1]? = some (.box c1) ∧ c1.length = 19) ∧ s.st[2]? = some (.box (bkN b n)) ∧ Holds s [(1, .box 0 0), (2, .box 1 0), (3, .box 2 0), (9, .int .i64 (trisU b.lots).length), (10, .int .i64 n)]) (fun k s hI => ?_) b.lots.length _ ?_
  · obtain ⟨n, hk, hst, ⟨c1, hst1, hc1⟩, hst2, hs⟩ := hI
    rw [hs.eq]
    refine k_seq ?_
    refine k_region ?_   -- region 3 book.go:20
    refine o_lss rfl rfl rfl ?_
    refine o_nil ?_
    refine k_seq ?_
    refine k_cond rfl (fun h1 => ?_) (fun h1 => ?_)   -- slot 11
    · have h3' : n < b.lots.length := by
        have := of_decide_eq_true h1
        simp at this; omega
      obtain ⟨q, hq⟩ : ∃ q, b.lots[n]? = some q := ⟨b.lots[n], List.getElem?_eq_getElem h3'⟩
      refine k_skip ?_
      refine k_seq ?_
      refine k_block ?_
      refine k_seq ?_
      refine k_region ?_   -- region 4 book.go:20
      refine o_move rfl ?_
      refine o_assign rfl ?_
      refine o_nil ?_
      refine k_region ?_   -- region 5 book.go:21
      refine o_move rfl ?_
      first | refine o_faddr rfl rfl fld28_0 ?_ | refine o_faddrR rfl rfl fld28_0 ?_
      first | refine o_load1 rfl rfl rfl sh22 rfl ?_ | refine o_load1 rfl rfl (at_set _ _ _) sh22 rfl ?_ | refine o_load1 rfl rfl (at_new _ _) sh22 rfl ?_ | refine o_load1 rfl rfl (at_old2 hst) sh22 rfl ?_ | refine o_load1 rfl rfl (at_old hst) sh22 rfl ?_ | refine o_load1 rfl rfl hst sh22 rfl ?_ | refine o_loadR1 rfl rfl sh22 rfl ?_
      refine o_move rfl ?_
      refine o_idx (u := q.u) rfl ty22 rfl rfl (Int.natCast_nonneg n) (by simp [hq]) cl39 ?_
      first | refine o_faddr rfl rfl fld39_0 ?_ | refine o_faddrR rfl rfl fld39_0 ?_
      first | refine o_load1 rfl rfl rfl sh3 rfl ?_ | refine o_load1 rfl rfl (at_set _ _ _) sh3 rfl ?_ | refine o_load1 rfl rfl (at_new _ _) sh3 rfl ?_ | refine o_load1 rfl rfl (at_old2 hst) sh3 rfl ?_ | refine o_load1 rfl rfl (at_old hst) sh3 rfl ?_ | refine o_load1 rfl rfl hst sh3 rfl ?_ | refine o_loadR1 rfl rfl sh3 rfl ?_
      first | refine o_faddr rfl rfl fld73_1 ?_ | refine o_faddrR rfl rfl fld73_1 ?_
      first | refine o_idxA rfl ty70 rfl rfl (by omega) (by omega) cl3 ?_ | refine o_idxE rfl ty70 rfl rfl (by omega) (by omega) cl3 ?_
      refine o_store1 rfl hst2 sh3 (by show Nat.blt (14 + (n : Int).toNat * 1) 19 = true; rw [Int.toNat_natCast, Nat.mul_one, Nat.blt_eq]; omega) rfl ?_
      refine o_nil ?_
      refine k_region ?_   -- region 6 book.go:20
      refine o_add rfl rfl rfl (by unfold I64; omega) ?_
      refine o_move rfl ?_
      refine o_nil ?_
      refine ⟨k - 1, by omega, n + 1, by omega, ?_, ⟨c1, ?_, hc1⟩, ?_, .cons rfl (.cons rfl (.cons rfl (.cons rfl (.cons rfl (.nil rfl)))))⟩
      · show (s.st.set 2 _)[0]? = _; rw [List.getElem?_set_ne (by decide)]; exact hst
      · show (s.st.set 2 _)[1]? = _; rw [List.getElem?_set_ne (by decide)]; exact hst1
      · show (s.st.set 2 (SB.box ((bkN b n).set (14 + (n : Int).toNat * 1) (.int .i64 q.a))))[2]? = _
        rw [List.getElem?_set_self (List.getElem?_eq_some_iff.1 hst2).1, Int.toNat_natCast, Nat.mul_one, stk_set b hq (by omega)]
    · refine k_exit ?_
      refine k_seq ?_
      refine k_region ?_   -- region 7 book.go:23
      refine o_loadN rfl rfl hst2 sh73 rfl ?_
      refine o_storeN rfl hst1 sh73 rfl rfl rfl (by rw [hc1]; rfl) rfl ?_
      refine o_nil ?_
      refine k_ret ?_
      refine ⟨.inr rfl, _, .cons _ _ _ _ (.cellN 2 73 _ _ _ ((c1.take 0 ++ bkN b n) ++ c1.drop 19) rfl (by show (s.st.set 1 _)[1]? = _; rw [List.getElem?_set_self (List.getElem?_eq_some_iff.1 hst1).1]; rfl) sh73 (by simp [hc1])) .nil, ?_⟩
      have h3' : n = b.lots.length := by
        have := of_decide_eq_false h1
        simp at this; omega
      subst h3'
      exact .refl _
  · exact ⟨0, rfl, rfl, ⟨_, rfl, rfl⟩, rfl, .cons rfl (.cons rfl (.cons rfl (.cons rfl (.cons rfl (.nil rfl)))))⟩

-- 33 saron/forge.ask params [28, 4] pure True
noncomputable def b33 : Code := (Try.f33.body).getD .skip
theorem body33 : bodyOf Try.prog 33 = some (18, b33, [.cell 4 73, .tmp 5]) := by kernel_rfl
theorem pure33 : pureFn Try.prog 33 = true := by kernel_rfl
set_option maxHeartbeats 4000000 in
theorem ret33 (hi : Off is) {b : Bk} (hk : Ok b) : RetP Try.prog is orc 33 [b.u, .bool true] (.tup [bkF b, .int .i64 0]) := by
  refine ret_of body33 pure33 (hi 33 (by decide)) rfl rfl (dat_l2 (dat_bk b 5) (.bool _ _)) (.inr ⟨_, rfl, dat_l2 (dat_bkF b 4) (.int _ _ _)⟩) ?_
  have hv : checkR b = 0 := by unfold checkR; rw [ok_valid hk]; rfl
  refine k_seq ?_
  refine k_region ?_   -- region 0 forge.go:137
  refine o_box rfl rfl ?_
  refine o_alloc rfl ze73 ?_
  refine o_assign rfl ?_
  refine o_nil ?_
  refine k_seq ?_
  refine k_seq ?_
  refine k_region ?_   -- region 1 forge.go:138
  first | refine o_loadN rfl rfl rfl sh28 rfl ?_ | refine o_loadRN rfl rfl sh28 rfl ?_
  refine o_call rfl (ret24 hi b) (.lrefl _) ?_
  refine o_assign rfl ?_
  refine o_nil ?_
  refine k_seq ?_
  refine k_region ?_   -- region 2 forge.go:138
  refine o_move rfl ?_
  refine o_neq rfl rfl rfl ?_
  refine o_nil ?_
  refine k_cond rfl (fun h => absurd (h.symm.trans (decide_eq_false (fun h => h hv))) (by decide)) (fun _ => ?_)
  refine k_skip ?_
  refine k_seq ?_
  refine k_seq ?_
  refine k_region ?_   -- region 4 forge.go:141
  refine o_move rfl ?_
  refine o_not rfl rfl ?_
  refine o_nil ?_
  refine k_cond rfl (fun h => absurd (h.symm.trans rfl) (by decide)) (fun _ => ?_)
  refine k_skip ?_
  refine k_seq ?_
  refine k_region ?_   -- region 6 forge.go:144
  first | refine o_loadN rfl rfl rfl sh28 rfl ?_ | refine o_loadRN rfl rfl sh28 rfl ?_
  refine o_call rfl (ret50 hi b hk.nl.2) (.lrefl _) ?_
  refine o_storeN rfl rfl sh73 rfl rfl rfl rfl rfl ?_
  refine o_assign rfl ?_
  refine o_nil ?_
  refine k_ret ?_
  refine ⟨.inr rfl, _, .cons _ _ _ _ (.cellN 4 73 _ _ _ _ rfl rfl sh73 rfl) (.cons _ _ _ _ (.tmp 5) .nil), ?_⟩
  exact .refl _

def hin (b : Bk) (d : Int) : Int := (b.hot - b.least) / d + 1
def hat (b : Bk) (n d : Int) : Int := (n + hin b d - 1) / hin b d
theorem hin_ge {b : Bk} (hk : Ok b) {d : Int} (hd : 1 ≤ d) : 1 ≤ hin b d ∧ hin b d ≤ 1501 := by
  have := hk.least; have := hk.hot
  have h1 := Int.ediv_nonneg (show 0 ≤ b.hot - b.least by omega) (show 0 ≤ d by omega)
  have h2 := Int.ediv_le_self d (show 0 ≤ b.hot - b.least by omega)
  unfold hin; omega
theorem ceil_up {n m : Int} (hm : 1 ≤ m) : n ≤ (n + m - 1) / m * m := by
  have h1 := Int.emod_add_mul_ediv (n + m - 1) m
  have h2 := Int.emod_lt_of_pos (n + m - 1) (show 0 < m by omega)
  rw [Int.mul_comm] at h1
  omega
theorem ceil_le {n m x : Int} (hm : 1 ≤ m) (h : n ≤ x * m) : (n + m - 1) / m ≤ x := by
  have h1 : (n + m - 1) / m < x + 1 := Int.ediv_lt_of_lt_mul (by omega) (by rw [Int.add_mul, Int.one_mul]; omega)
  omega
theorem ceil_ge0 {n m : Int} (hm : 1 ≤ m) (hn : 0 ≤ n) : 0 ≤ (n + m - 1) / m := Int.ediv_nonneg (by omega) (by omega)
theorem hat_b {b : Bk} (hk : Ok b) {n d : Int} (hd : 1 ≤ d) (hn : 0 ≤ n) : 0 ≤ hat b n d ∧ hat b n d ≤ n := by
  have h1 := hin_ge hk hd
  refine ⟨ceil_ge0 h1.1 hn, ceil_le h1.1 ?_⟩
  have := Int.mul_le_mul_of_nonneg_left h1.1 hn
  omega

-- 58 (saron/forge.book).heatsAt params [73, 3, 3] pure True
noncomputable def b58 : Code := (Try.f58.body).getD .skip
theorem body58 : bodyOf Try.prog 58 = some (24, b58, [.tmp 6]) := by kernel_rfl
theorem pure58 : pureFn Try.prog 58 = true := by kernel_rfl
set_option maxHeartbeats 4000000 in
theorem ret58 (hi : Off is) {b : Bk} (hk : Ok b) (n d : Int) (hd : 1 ≤ d ∧ d ≤ 300) (hn : 0 ≤ n ∧ n ≤ 300) : RetP Try.prog is orc 58 [bkF b, .int .i64 n, .int .i64 d] (.int .i64 (hat b n d)) := by
  refine ret_of body58 pure58 (hi 58 (by decide)) rfl rfl (dat_l3 (dat_bkF b 5) (.int _ _ _) (.int _ _ _)) (.inl (.int _ _ _)) ?_
  have q1 := hk.least; have q2 := hk.hot; have q3 := hin_ge hk hd.1; have q4 := hat_b hk hd.1 hn.1
  unfold hat hin at q4
  unfold hin at q3
  have e1 : (b.hot - b.least).tdiv d = (b.hot - b.least) / d := Int.tdiv_eq_ediv_of_nonneg (by omega)
  have e2 : (n + ((b.hot - b.least) / d + 1) - 1).tdiv ((b.hot - b.least) / d + 1) = (n + ((b.hot - b.least) / d + 1) - 1) / ((b.hot - b.least) / d + 1) := Int.tdiv_eq_ediv_of_nonneg (by omega)
  refine k_seq ?_
  refine k_region ?_   -- region 0 disc.go:132
  refine o_box rfl rfl ?_
  refine o_assign rfl ?_
  refine o_nil ?_
  refine k_seq ?_
  refine k_region ?_   -- region 1 disc.go:133
  first | refine o_faddr rfl rfl fld73_0 ?_ | refine o_faddrR rfl rfl fld73_0 ?_
  first | refine o_faddr rfl rfl fld28_6 ?_ | refine o_faddrR rfl rfl fld28_6 ?_
  first | refine o_load1 rfl rfl rfl sh3 rfl ?_ | refine o_loadR1 rfl rfl sh3 rfl ?_
  first | refine o_faddr rfl rfl fld73_0 ?_ | refine o_faddrR rfl rfl fld73_0 ?_
  first | refine o_faddr rfl rfl fld28_7 ?_ | refine o_faddrR rfl rfl fld28_7 ?_
  first | refine o_load1 rfl rfl rfl sh3 rfl ?_ | refine o_loadR1 rfl rfl sh3 rfl ?_
  refine o_sub rfl rfl rfl (by unfold I64; omega) ?_
  refine o_move rfl ?_
  refine o_quo rfl rfl rfl (by omega) (by rw [e1]; unfold I64; omega) ?_
  rw [e1]
  refine o_add rfl rfl rfl (by unfold I64; omega) ?_
  refine o_assign rfl ?_
  refine o_nil ?_
  refine k_seq ?_
  refine k_region ?_   -- region 2 disc.go:134
  refine o_move rfl ?_
  refine o_move rfl ?_
  refine o_add rfl rfl rfl (by unfold I64; omega) ?_
  refine o_sub rfl rfl rfl (by unfold I64; omega) ?_
  refine o_move rfl ?_
  refine o_quo rfl rfl rfl (by omega) (by rw [e2]; unfold I64; omega) ?_
  rw [e2]
  refine o_assign rfl ?_
  refine o_nil ?_
  refine k_ret ?_
  refine ⟨.inr rfl, _, .cons _ _ _ _ (.tmp 6) .nil, ?_⟩
  exact .refl _

theorem flat_int (n : Int) : FlatU (.int .i64 n) := .int _ _

-- 42 (saron/forge.book).heats params [73, 3] pure True
noncomputable def b42 : Code := (Try.f42.body).getD .skip
theorem body42 : bodyOf Try.prog 42 = some (20, b42, [.cell 4 24]) := by kernel_rfl
theorem pure42 : pureFn Try.prog 42 = true := by kernel_rfl
set_option maxHeartbeats 4000000 in
theorem ret42 (hi : Off is) {b : Bk} (hk : Ok b) (n : Int) (hn : 0 ≤ n ∧ n ≤ 300) : RetP Try.prog is orc 42 [bkF b, .int .i64 n] (spanU (hat b n b.clo) (hat b n b.chi)) := by
  refine ret_of body42 pure42 (hi 42 (by decide)) rfl rfl (dat_l2 (dat_bkF b 5) (.int _ _ _)) (.inl (dat_span _ _ _)) ?_
  refine k_seq ?_
  refine k_region ?_   -- region 0 disc.go:127
  refine o_box rfl rfl ?_
  refine o_alloc rfl ze24 ?_
  refine o_nil ?_
  refine k_seq ?_
  refine k_draw [.read true, .plain, .plain, .plain, .plain, .read true, .read false, .read true, .plain, .plain, .plain, .plain, .read true, .plain, .plain, .plain] (by kernel_rfl) (by kernel_rfl) (by kernel_rfl) ?_   -- region 1
  first | refine d_load rfl (o_loadN rfl rfl rfl sh73 rfl (o_nil rfl)) ?_ | refine d_load rfl (o_loadRN rfl rfl sh73 rfl (o_nil rfl)) ?_
  refine d_plain (o_move rfl (o_nil rfl)) ?_
  first | refine d_plain (o_faddr rfl rfl fld73_0 (o_nil rfl)) ?_ | refine d_plain (o_faddrR rfl rfl fld73_0 (o_nil rfl)) ?_
  first | refine d_plain (o_faddr rfl rfl fld28_8 (o_nil rfl)) ?_ | refine d_plain (o_faddrR rfl rfl fld28_8 (o_nil rfl)) ?_
  first | refine d_plain (o_faddr rfl rfl fld24_0 (o_nil rfl)) ?_ | refine d_plain (o_faddrR rfl rfl fld24_0 (o_nil rfl)) ?_
  first | refine d_load rfl (o_load1 rfl rfl rfl sh3 rfl (o_nil rfl)) ?_ | refine d_load rfl (o_loadR1 rfl rfl sh3 rfl (o_nil rfl)) ?_
  refine d_callR rfl (ret58 hi hk n b.clo (by have := hk.cool; omega) hn) (flat_int _) (.lrefl _) ?_
  first | refine d_load rfl (o_loadN rfl rfl rfl sh73 rfl (o_nil rfl)) ?_ | refine d_load rfl (o_loadRN rfl rfl sh73 rfl (o_nil rfl)) ?_
  refine d_plain (o_move rfl (o_nil rfl)) ?_
  first | refine d_plain (o_faddr rfl rfl fld73_0 (o_nil rfl)) ?_ | refine d_plain (o_faddrR rfl rfl fld73_0 (o_nil rfl)) ?_
  first | refine d_plain (o_faddr rfl rfl fld28_8 (o_nil rfl)) ?_ | refine d_plain (o_faddrR rfl rfl fld28_8 (o_nil rfl)) ?_
  first | refine d_plain (o_faddr rfl rfl fld24_1 (o_nil rfl)) ?_ | refine d_plain (o_faddrR rfl rfl fld24_1 (o_nil rfl)) ?_
  first | refine d_load rfl (o_load1 rfl rfl rfl sh3 rfl (o_nil rfl)) ?_ | refine d_load rfl (o_loadR1 rfl rfl sh3 rfl (o_nil rfl)) ?_
  refine d_plain (o_call rfl (ret58 hi hk n b.chi (by have := hk.cool; omega) hn) (.lrefl _) (o_nil rfl)) ?_
  refine d_plain (o_build rfl ze24 pl24 rfl rfl (o_nil rfl)) ?_
  refine d_plain (o_storeN rfl rfl sh24 rfl rfl rfl rfl rfl (o_nil rfl)) ?_
  refine d_nil ?_
  refine k_ret ?_
  refine ⟨.inr rfl, _, .cons _ _ _ _ (.cellN 4 24 _ _ _ _ rfl rfl sh24 rfl) .nil, ?_⟩
  exact .refl _

-- 22 saron/forge.Heats params [28, 3] pure True
noncomputable def b22 : Code := (Try.f22.body).getD .skip
theorem body22 : bodyOf Try.prog 22 = some (35, b22, [.cell 4 24, .cell 5 24, .tmp 6]) := by kernel_rfl
theorem pure22 : pureFn Try.prog 22 = true := by kernel_rfl
theorem mul64 {c x : Int} (hc : 0 ≤ c ∧ c ≤ 100) (hx : 0 ≤ x ∧ x ≤ 300) : I64 (x * c) := by
  have h1 := Int.mul_nonneg hx.1 hc.1
  have h2 := Int.mul_le_mul hx.2 hc.2 hc.1 (by omega)
  unfold I64; omega
set_option maxHeartbeats 4000000 in
theorem ret22 (hi : Off is) {b : Bk} (hk : Ok b) (n : Int) (hn : 0 ≤ n ∧ n ≤ 300) : RetP Try.prog is orc 22 [b.u, .int .i64 n] (.tup [spanU (hat b n b.clo) (hat b n b.chi), spanU (hat b n b.clo * b.coal) (hat b n b.chi * b.coal), .int .i64 0]) := by
  refine ret_of body22 pure22 (hi 22 (by decide)) rfl rfl (dat_l2 (dat_bk b 5) (.int _ _ _)) (.inr ⟨_, rfl, dat_l3 (dat_span _ _ _) (dat_span _ _ _) (.int _ _ _)⟩) ?_
  have h36 : RetP Try.prog is orc 36 [.int .i64 n] (.bool true) := by
    have := ret36 (orc := orc) hi n
    rwa [show (decide (0 ≤ n) && decide (n ≤ 300)) = true by simp; omega] at this
  have hc := hk.coal; have hl := hk.cool
  have w1 : 0 ≤ hat b n b.clo ∧ hat b n b.clo ≤ 300 := by have := hat_b hk (d := b.clo) (by omega) hn.1; omega
  have w2 : 0 ≤ hat b n b.chi ∧ hat b n b.chi ≤ 300 := by have := hat_b hk (d := b.chi) (by omega) hn.1; omega
  refine k_seq ?_
  refine k_region ?_   -- region 0 forge.go:127
  refine o_box rfl rfl ?_
  refine o_alloc rfl ze24 ?_
  refine o_alloc rfl ze24 ?_
  refine o_assign rfl ?_
  refine o_nil ?_
  refine k_seq ?_
  refine k_draw [.read true, .plain, .read false, .quiet, .plain, .plain, .plain, .pre, .plain, .plain] (by kernel_rfl) (by kernel_rfl) (by kernel_rfl) ?_   -- region 1
  first | refine d_load rfl (o_loadN rfl rfl rfl sh28 rfl (o_nil rfl)) ?_ | refine d_load rfl (o_loadRN rfl rfl sh28 rfl (o_nil rfl)) ?_
  refine d_plain (o_move rfl (o_nil rfl)) ?_
  refine d_callR rfl (h36) (.bool _) (.lrefl _) ?_
  refine d_callQ rfl (ret33 hi hk) (.lrefl _) ?_
  refine d_plain (o_move rfl (o_nil rfl)) ?_
  refine d_plain (o_extract rfl rfl rfl (o_nil rfl)) ?_
  refine d_plain (o_extract rfl rfl rfl (o_nil rfl)) ?_
  refine d_pre rfl ze73 ?_
  refine d_plain (o_storeN rfl rfl sh73 rfl rfl rfl rfl rfl (o_nil rfl)) ?_
  refine d_plain (o_assign rfl (o_nil rfl)) ?_
  refine d_nil ?_
  refine k_seq ?_
  refine k_seq ?_
  refine k_region ?_   -- region 2 forge.go:129
  refine o_move rfl ?_
  refine o_neq rfl rfl rfl ?_
  refine o_nil ?_
  refine k_cond rfl (fun h => absurd (h.symm.trans (decide_eq_false (fun h => h rfl))) (by decide)) (fun _ => ?_)
  refine k_skip ?_
  refine k_seq ?_
  refine k_region ?_   -- region 4 forge.go:132
  first | refine o_loadN rfl rfl rfl sh73 rfl ?_ | refine o_loadRN rfl rfl sh73 rfl ?_
  refine o_move rfl ?_
  refine o_call rfl (ret42 hi hk n hn) (.lrefl _) ?_
  refine o_storeN rfl rfl sh24 rfl rfl rfl rfl rfl ?_
  refine o_nil ?_
  refine k_seq ?_
  refine k_drawA [.read true, .plain, .read true, .plain, .read true, .plain, .plain, .read true, .plain, .read true, .plain, .plain, .plain, .plain, .plain] [(26, 4), (31, 4)] (by kernel_rfl) (by kernel_rfl) (by kernel_rfl) ?_   -- region 5
  first | refine d_load rfl (o_loadN rfl rfl rfl sh24 rfl (o_nil rfl)) ?_ | refine d_load rfl (o_loadRN rfl rfl sh24 rfl (o_nil rfl)) ?_
  first | refine d_plain (o_faddr rfl rfl fld24_0 (o_nil rfl)) ?_ | refine d_plain (o_faddrR rfl rfl fld24_0 (o_nil rfl)) ?_
  first | refine d_load rfl (o_load1 rfl rfl rfl sh3 rfl (o_nil rfl)) ?_ | refine d_load rfl (o_loadR1 rfl rfl sh3 rfl (o_nil rfl)) ?_
  first | refine d_plain (o_faddr rfl rfl fld28_9 (o_nil rfl)) ?_ | refine d_plain (o_faddrR rfl rfl fld28_9 (o_nil rfl)) ?_
  first | refine d_load rfl (o_load1 rfl rfl rfl sh3 rfl (o_nil rfl)) ?_ | refine d_load rfl (o_loadR1 rfl rfl sh3 rfl (o_nil rfl)) ?_
  refine d_plain (o_mul rfl rfl rfl (mul64 hc w1) (o_nil rfl)) ?_
  first | refine d_plain (o_faddr rfl rfl fld24_1 (o_nil rfl)) ?_ | refine d_plain (o_faddrR rfl rfl fld24_1 (o_nil rfl)) ?_
  first | refine d_load rfl (o_load1 rfl rfl rfl sh3 rfl (o_nil rfl)) ?_ | refine d_load rfl (o_loadR1 rfl rfl sh3 rfl (o_nil rfl)) ?_
  first | refine d_plain (o_faddr rfl rfl fld28_9 (o_nil rfl)) ?_ | refine d_plain (o_faddrR rfl rfl fld28_9 (o_nil rfl)) ?_
  first | refine d_load rfl (o_load1 rfl rfl rfl sh3 rfl (o_nil rfl)) ?_ | refine d_load rfl (o_loadR1 rfl rfl sh3 rfl (o_nil rfl)) ?_
  refine d_plain (o_mul rfl rfl rfl (mul64 hc w2) (o_nil rfl)) ?_
  refine d_plain (o_build rfl ze24 pl24 rfl rfl (o_nil rfl)) ?_
  refine d_plain (o_storeN rfl rfl sh24 rfl rfl rfl rfl rfl (o_nil rfl)) ?_
  refine d_plain (o_storeN rfl rfl sh24 rfl rfl rfl rfl rfl (o_nil rfl)) ?_
  refine d_plain (o_assign rfl (o_nil rfl)) ?_
  refine d_nil ⟨fun p hp => by simp only [List.mem_cons, List.not_mem_nil, or_false] at hp; rcases hp with rfl | rfl <;> exact ⟨_, _, _, _, _, rfl, rfl, Nat.ne_of_beq_eq_false rfl, rfl⟩, ?_⟩
  refine k_ret ?_
  refine ⟨.inr rfl, _, .cons _ _ _ _ (.cellN 4 24 _ _ _ _ rfl rfl sh24 rfl) (.cons _ _ _ _ (.cellN 5 24 _ _ _ _ rfl rfl sh24 rfl) (.cons _ _ _ _ (.tmp 6) .nil)), ?_⟩
  exact .refl _

theorem dat_none (k : Nat) : ∀ v ∈ ([] : List U), Dat k v := fun v hv => by cases hv

-- 7 saron/saronlaw02.sound params [28] pure True
noncomputable def b7 : Code := (Try.f7.body).getD .skip
theorem body7 : bodyOf Try.prog 7 = some (142, b7, [.tmp 2]) := by kernel_rfl
theorem pure7 : pureFn Try.prog 7 = true := by kernel_rfl
set_option maxHeartbeats 4000000 in
theorem ret7 (hi : Off is) {b : Bk} (hk : Ok b) : RetP Try.prog is orc 7 [b.u] (.bool true) := by
  refine ret_of body7 pure7 (hi 7 (by decide)) rfl rfl (dat_l1 (dat_bk b 5)) (.inl (.bool _ _)) ?_
  have w1 := hk.nl; have w2 := hk.nt; have w3 := hk.nk
  have hv : checkR b = 0 := by unfold checkR; rw [ok_valid hk]; rfl
  have g11 : decide (checkR b = 0) = true := decide_eq_true hv
  have g17 : (decide (1 ≤ ((trisU b.lots).length : Int)) && decide (((trisU b.lots).length : Int) ≤ 4)) = true := by have := hk.nl; simp; omega
  have g22 : (decide (0 ≤ b.tlo) && (decide (b.tlo ≤ b.thi) && decide (b.thi ≤ 1000))) = true := by have := hk.tin; simp; omega
  have g27 : (decide (1 ≤ b.thick) && decide (b.thick ≤ 3000)) = true := by have := hk.thick; simp; omega
  have g32 : (decide (0 ≤ b.crack) && decide (b.crack ≤ 3000)) = true := by have := hk.crack; simp; omega
  have g37 : (decide (0 ≤ b.glo) && (decide (b.glo ≤ b.ghi) && decide (b.ghi ≤ 3000))) = true := by have := hk.goal; simp; omega
  have g43 : decide (((twosU b.thins).length : Int) = 3) = true := by have := hk.nt; simp; omega
  have g48 : (decide (0 ≤ b.hot) && decide (b.hot ≤ 1500)) = true := by have := hk.hot; simp; omega
  have g55 : (decide (0 ≤ b.least) && decide (b.least ≤ b.hot)) = true := by have := hk.least; simp; omega
  have g60 : (decide (1 ≤ b.clo) && (decide (b.clo ≤ b.chi) && decide (b.chi ≤ 300))) = true := by have := hk.cool; simp; omega
  have g65 : (decide (0 ≤ b.coal) && decide (b.coal ≤ 100)) = true := by have := hk.coal; simp; omega
  have g69 : decide (((trisU b.looks).length : Int) ≤ 8) = true := by have := hk.nk; simp; omega
  refine k_seq ?_
  refine k_region ?_   -- region 0 outright.go:50
  refine o_box rfl rfl ?_
  refine o_assign rfl ?_
  refine o_nil ?_
  refine k_seq ?_
  refine k_region ?_   -- region 1 outright.go:51
  first | refine o_loadN rfl rfl rfl sh28 rfl ?_ | refine o_loadRN rfl rfl sh28 rfl ?_
  refine o_call rfl (ret24 hi b) (.lrefl _) ?_
  refine o_eql rfl rfl rfl ?_
  refine o_move rfl ?_
  refine o_guard rfl rfl rfl rfl (fun _ => ?_) (fun h => absurd (h.symm.trans g11) (by decide))
  first | refine o_faddr rfl rfl fld28_0 ?_ | refine o_faddrR rfl rfl fld28_0 ?_
  refine o_guard rfl rfl rfl rfl (fun _ => ?_) (fun h => absurd (h.symm.trans g11) (by decide))
  first | refine o_load1 rfl rfl rfl sh22 rfl ?_ | refine o_loadR1 rfl rfl sh22 rfl ?_
  refine o_guard rfl rfl rfl rfl (fun _ => ?_) (fun h => absurd (h.symm.trans g11) (by decide))
  refine o_len rfl ty22 rfl rfl ?_
  refine o_guard rfl rfl rfl rfl (fun _ => ?_) (fun h => absurd (h.symm.trans g11) (by decide))
  refine o_call rfl (ret15 hi _ _ _) (.lrefl _) ?_
  refine o_pickT rfl rfl g11 ?_
  refine o_move rfl ?_
  refine o_guard rfl rfl rfl rfl (fun _ => ?_) (fun h => absurd (h.symm.trans g17) (by decide))
  first | refine o_faddr rfl rfl fld28_1 ?_ | refine o_faddrR rfl rfl fld28_1 ?_
  refine o_guard rfl rfl rfl rfl (fun _ => ?_) (fun h => absurd (h.symm.trans g17) (by decide))
  first | refine o_loadN rfl rfl rfl sh24 rfl ?_ | refine o_loadRN rfl rfl sh24 rfl ?_
  refine o_guard rfl rfl rfl rfl (fun _ => ?_) (fun h => absurd (h.symm.trans g17) (by decide))
  refine o_call rfl (ret23 hi _ _ _ _) (.lrefl _) ?_
  refine o_pickT rfl rfl g17 ?_
  refine o_move rfl ?_
  refine o_guard rfl rfl rfl rfl (fun _ => ?_) (fun h => absurd (h.symm.trans g22) (by decide))
  first | refine o_faddr rfl rfl fld28_2 ?_ | refine o_faddrR rfl rfl fld28_2 ?_
  refine o_guard rfl rfl rfl rfl (fun _ => ?_) (fun h => absurd (h.symm.trans g22) (by decide))
  first | refine o_load1 rfl rfl rfl sh3 rfl ?_ | refine o_loadR1 rfl rfl sh3 rfl ?_
  refine o_guard rfl rfl rfl rfl (fun _ => ?_) (fun h => absurd (h.symm.trans g22) (by decide))
  refine o_call rfl (ret15 hi _ _ _) (.lrefl _) ?_
  refine o_pickT rfl rfl g22 ?_
  refine o_move rfl ?_
  refine o_guard rfl rfl rfl rfl (fun _ => ?_) (fun h => absurd (h.symm.trans g27) (by decide))
  first | refine o_faddr rfl rfl fld28_3 ?_ | refine o_faddrR rfl rfl fld28_3 ?_
  refine o_guard rfl rfl rfl rfl (fun _ => ?_) (fun h => absurd (h.symm.trans g27) (by decide))
  first | refine o_load1 rfl rfl rfl sh3 rfl ?_ | refine o_loadR1 rfl rfl sh3 rfl ?_
  refine o_guard rfl rfl rfl rfl (fun _ => ?_) (fun h => absurd (h.symm.trans g27) (by decide))
  refine o_call rfl (ret15 hi _ _ _) (.lrefl _) ?_
  refine o_pickT rfl rfl g27 ?_
  refine o_move rfl ?_
  refine o_guard rfl rfl rfl rfl (fun _ => ?_) (fun h => absurd (h.symm.trans g32) (by decide))
  first | refine o_faddr rfl rfl fld28_4 ?_ | refine o_faddrR rfl rfl fld28_4 ?_
  refine o_guard rfl rfl rfl rfl (fun _ => ?_) (fun h => absurd (h.symm.trans g32) (by decide))
  first | refine o_loadN rfl rfl rfl sh24 rfl ?_ | refine o_loadRN rfl rfl sh24 rfl ?_
  refine o_guard rfl rfl rfl rfl (fun _ => ?_) (fun h => absurd (h.symm.trans g32) (by decide))
  refine o_call rfl (ret23 hi _ _ _ _) (.lrefl _) ?_
  refine o_pickT rfl rfl g32 ?_
  refine o_move rfl ?_
  refine o_guard rfl rfl rfl rfl (fun _ => ?_) (fun h => absurd (h.symm.trans g37) (by decide))
  first | refine o_faddr rfl rfl fld28_5 ?_ | refine o_faddrR rfl rfl fld28_5 ?_
  refine o_guard rfl rfl rfl rfl (fun _ => ?_) (fun h => absurd (h.symm.trans g37) (by decide))
  first | refine o_load1 rfl rfl rfl sh25 rfl ?_ | refine o_loadR1 rfl rfl sh25 rfl ?_
  refine o_guard rfl rfl rfl rfl (fun _ => ?_) (fun h => absurd (h.symm.trans g37) (by decide))
  refine o_len rfl ty25 rfl rfl ?_
  refine o_guard rfl rfl rfl rfl (fun _ => ?_) (fun h => absurd (h.symm.trans g37) (by decide))
  refine o_eql rfl rfl rfl ?_
  refine o_pickT rfl rfl g37 ?_
  refine o_move rfl ?_
  refine o_guard rfl rfl rfl rfl (fun _ => ?_) (fun h => absurd (h.symm.trans g43) (by decide))
  first | refine o_faddr rfl rfl fld28_6 ?_ | refine o_faddrR rfl rfl fld28_6 ?_
  refine o_guard rfl rfl rfl rfl (fun _ => ?_) (fun h => absurd (h.symm.trans g43) (by decide))
  first | refine o_load1 rfl rfl rfl sh3 rfl ?_ | refine o_loadR1 rfl rfl sh3 rfl ?_
  refine o_guard rfl rfl rfl rfl (fun _ => ?_) (fun h => absurd (h.symm.trans g43) (by decide))
  refine o_call rfl (ret15 hi _ _ _) (.lrefl _) ?_
  refine o_pickT rfl rfl g43 ?_
  refine o_move rfl ?_
  refine o_guard rfl rfl rfl rfl (fun _ => ?_) (fun h => absurd (h.symm.trans g48) (by decide))
  first | refine o_faddr rfl rfl fld28_7 ?_ | refine o_faddrR rfl rfl fld28_7 ?_
  refine o_guard rfl rfl rfl rfl (fun _ => ?_) (fun h => absurd (h.symm.trans g48) (by decide))
  first | refine o_load1 rfl rfl rfl sh3 rfl ?_ | refine o_loadR1 rfl rfl sh3 rfl ?_
  refine o_guard rfl rfl rfl rfl (fun _ => ?_) (fun h => absurd (h.symm.trans g48) (by decide))
  first | refine o_faddr rfl rfl fld28_6 ?_ | refine o_faddrR rfl rfl fld28_6 ?_
  refine o_guard rfl rfl rfl rfl (fun _ => ?_) (fun h => absurd (h.symm.trans g48) (by decide))
  first | refine o_load1 rfl rfl rfl sh3 rfl ?_ | refine o_loadR1 rfl rfl sh3 rfl ?_
  refine o_guard rfl rfl rfl rfl (fun _ => ?_) (fun h => absurd (h.symm.trans g48) (by decide))
  refine o_call rfl (ret15 hi _ _ _) (.lrefl _) ?_
  refine o_pickT rfl rfl g48 ?_
  refine o_move rfl ?_
  refine o_guard rfl rfl rfl rfl (fun _ => ?_) (fun h => absurd (h.symm.trans g55) (by decide))
  first | refine o_faddr rfl rfl fld28_8 ?_ | refine o_faddrR rfl rfl fld28_8 ?_
  refine o_guard rfl rfl rfl rfl (fun _ => ?_) (fun h => absurd (h.symm.trans g55) (by decide))
  first | refine o_loadN rfl rfl rfl sh24 rfl ?_ | refine o_loadRN rfl rfl sh24 rfl ?_
  refine o_guard rfl rfl rfl rfl (fun _ => ?_) (fun h => absurd (h.symm.trans g55) (by decide))
  refine o_call rfl (ret23 hi _ _ _ _) (.lrefl _) ?_
  refine o_pickT rfl rfl g55 ?_
  refine o_move rfl ?_
  refine o_guard rfl rfl rfl rfl (fun _ => ?_) (fun h => absurd (h.symm.trans g60) (by decide))
  first | refine o_faddr rfl rfl fld28_9 ?_ | refine o_faddrR rfl rfl fld28_9 ?_
  refine o_guard rfl rfl rfl rfl (fun _ => ?_) (fun h => absurd (h.symm.trans g60) (by decide))
  first | refine o_load1 rfl rfl rfl sh3 rfl ?_ | refine o_loadR1 rfl rfl sh3 rfl ?_
  refine o_guard rfl rfl rfl rfl (fun _ => ?_) (fun h => absurd (h.symm.trans g60) (by decide))
  refine o_call rfl (ret15 hi _ _ _) (.lrefl _) ?_
  refine o_pickT rfl rfl g60 ?_
  refine o_move rfl ?_
  refine o_guard rfl rfl rfl rfl (fun _ => ?_) (fun h => absurd (h.symm.trans g65) (by decide))
  first | refine o_faddr rfl rfl fld28_10 ?_ | refine o_faddrR rfl rfl fld28_10 ?_
  refine o_guard rfl rfl rfl rfl (fun _ => ?_) (fun h => absurd (h.symm.trans g65) (by decide))
  first | refine o_load1 rfl rfl rfl sh26 rfl ?_ | refine o_loadR1 rfl rfl sh26 rfl ?_
  refine o_guard rfl rfl rfl rfl (fun _ => ?_) (fun h => absurd (h.symm.trans g65) (by decide))
  refine o_len rfl ty26 rfl rfl ?_
  refine o_guard rfl rfl rfl rfl (fun _ => ?_) (fun h => absurd (h.symm.trans g65) (by decide))
  refine o_leq rfl rfl rfl ?_
  refine o_pickT rfl rfl g65 ?_
  refine o_assign rfl ?_
  refine o_nil ?_
  refine k_seq ?_
  refine k_seq ?_
  refine k_region ?_   -- region 2 outright.go:52
  refine o_assign rfl ?_
  refine o_nil ?_
  refine k_block ?_
  -- LOOP 1
  refine k_loop (fun k s => ∃ n : Nat, k + n = b.lots.length ∧ s.st[0]? = some (.box b.cs) ∧ Holds s [(1, .box 0 0), (3, .bool true), (4, .int .i64 n)]) (fun k s hI => ?_) b.lots.length _ ?_
  · obtain ⟨n, hk0, hst, hs⟩ := hI
    rw [hs.eq]
    refine k_seq ?_
    refine k_seq ?_
    refine k_region ?_   -- region 3 outright.go:52
    refine o_move rfl ?_
    refine o_move rfl ?_
    refine o_guard rfl rfl rfl rfl (fun _ => ?_) (fun h => absurd (h.symm.trans rfl) (by decide))
    refine o_move rfl ?_
    refine o_guard rfl rfl rfl rfl (fun _ => ?_) (fun h => absurd (h.symm.trans rfl) (by decide))
    first | refine o_faddr rfl rfl fld28_0 ?_ | refine o_faddrR rfl rfl fld28_0 ?_
    refine o_guard rfl rfl rfl rfl (fun _ => ?_) (fun h => absurd (h.symm.trans rfl) (by decide))
    first | refine o_load1 rfl rfl rfl sh22 rfl ?_ | refine o_load1 rfl rfl (at_set _ _ _) sh22 rfl ?_ | refine o_load1 rfl rfl (at_new _ _) sh22 rfl ?_ | refine o_load1 rfl rfl (at_old2 hst) sh22 rfl ?_ | refine o_load1 rfl rfl (at_old hst) sh22 rfl ?_ | refine o_load1 rfl rfl hst sh22 rfl ?_ | refine o_loadR1 rfl rfl sh22 rfl ?_
    refine o_guard rfl rfl rfl rfl (fun _ => ?_) (fun h => absurd (h.symm.trans rfl) (by decide))
    refine o_len rfl ty22 rfl rfl ?_
    refine o_guard rfl rfl rfl rfl (fun _ => ?_) (fun h => absurd (h.symm.trans rfl) (by decide))
    refine o_lss rfl rfl rfl ?_
    refine o_pickT rfl rfl rfl ?_
    refine o_nil ?_
    refine k_cond rfl (fun h1 => ?_) (fun h1 => ?_)   -- slot 78
    · have h3' : n < b.lots.length := by
        have := of_decide_eq_true h1
        simp at this; omega
      obtain ⟨q, hq⟩ : ∃ q, b.lots[n]? = some q := ⟨b.lots[n], List.getElem?_eq_getElem h3'⟩
      have hm := hk.lots q (List.mem_of_getElem? hq)
      have g88 : (decide (0 ≤ q.a) && decide (q.a ≤ 6)) = true := by simp; omega
      have g95 : (decide (0 ≤ q.b) && (decide (q.b ≤ q.c) && decide (q.c ≤ 1000))) = true := by simp; omega
      refine k_skip ?_
      refine k_seq ?_
      refine k_block ?_
      refine k_region ?_   -- region 5 outright.go:53
      first | refine o_faddr rfl rfl fld28_0 ?_ | refine o_faddrR rfl rfl fld28_0 ?_
      first | refine o_load1 rfl rfl rfl sh22 rfl ?_ | refine o_load1 rfl rfl (at_set _ _ _) sh22 rfl ?_ | refine o_load1 rfl rfl (at_new _ _) sh22 rfl ?_ | refine o_load1 rfl rfl (at_old2 hst) sh22 rfl ?_ | refine o_load1 rfl rfl (at_old hst) sh22 rfl ?_ | refine o_load1 rfl rfl hst sh22 rfl ?_ | refine o_loadR1 rfl rfl sh22 rfl ?_
      refine o_move rfl ?_
      refine o_idx (u := q.u) rfl ty22 rfl rfl (Int.natCast_nonneg n) (by simp [hq]) cl39 ?_
      first | refine o_faddr rfl rfl fld39_0 ?_ | refine o_faddrR rfl rfl fld39_0 ?_
      first | refine o_load1 rfl rfl rfl sh3 rfl ?_ | refine o_load1 rfl rfl (at_set _ _ _) sh3 rfl ?_ | refine o_load1 rfl rfl (at_new _ _) sh3 rfl ?_ | refine o_load1 rfl rfl (at_old2 hst) sh3 rfl ?_ | refine o_load1 rfl rfl (at_old hst) sh3 rfl ?_ | refine o_load1 rfl rfl hst sh3 rfl ?_ | refine o_loadR1 rfl rfl sh3 rfl ?_
      refine o_call rfl (ret15 hi _ _ _) (.lrefl _) ?_
      refine o_move rfl ?_
      refine o_guard rfl rfl rfl rfl (fun _ => ?_) (fun h => absurd (h.symm.trans g88) (by decide))
      first | refine o_faddr rfl rfl fld28_0 ?_ | refine o_faddrR rfl rfl fld28_0 ?_
      refine o_guard rfl rfl rfl rfl (fun _ => ?_) (fun h => absurd (h.symm.trans g88) (by decide))
      first | refine o_load1 rfl rfl rfl sh22 rfl ?_ | refine o_load1 rfl rfl (at_set _ _ _) sh22 rfl ?_ | refine o_load1 rfl rfl (at_new _ _) sh22 rfl ?_ | refine o_load1 rfl rfl (at_old2 hst) sh22 rfl ?_ | refine o_load1 rfl rfl (at_old hst) sh22 rfl ?_ | refine o_load1 rfl rfl hst sh22 rfl ?_ | refine o_loadR1 rfl rfl sh22 rfl ?_
      refine o_guard rfl rfl rfl rfl (fun _ => ?_) (fun h => absurd (h.symm.trans g88) (by decide))
      refine o_move rfl ?_
      refine o_guard rfl rfl rfl rfl (fun _ => ?_) (fun h => absurd (h.symm.trans g88) (by decide))
      refine o_idx (u := q.u) rfl ty22 rfl rfl (Int.natCast_nonneg n) (by simp [hq]) cl39 ?_
      refine o_guard rfl rfl rfl rfl (fun _ => ?_) (fun h => absurd (h.symm.trans g88) (by decide))
      first | refine o_faddr rfl rfl fld39_1 ?_ | refine o_faddrR rfl rfl fld39_1 ?_
      refine o_guard rfl rfl rfl rfl (fun _ => ?_) (fun h => absurd (h.symm.trans g88) (by decide))
      first | refine o_loadN rfl rfl rfl sh24 rfl ?_ | refine o_loadN rfl rfl (at_set _ _ _) sh24 rfl ?_ | refine o_loadN rfl rfl (at_new _ _) sh24 rfl ?_ | refine o_loadN rfl rfl (at_old2 hst) sh24 rfl ?_ | refine o_loadN rfl rfl (at_old hst) sh24 rfl ?_ | refine o_loadN rfl rfl hst sh24 rfl ?_ | refine o_loadRN rfl rfl sh24 rfl ?_
      refine o_guard rfl rfl rfl rfl (fun _ => ?_) (fun h => absurd (h.symm.trans g88) (by decide))
      refine o_call rfl (ret23 hi _ _ _ _) (.lrefl _) ?_
      refine o_pickT rfl rfl g88 ?_
      refine o_assign rfl ?_
      refine o_nil ?_
      refine k_region ?_   -- region 4 outright.go:52
      refine o_move rfl ?_
      refine o_add rfl rfl rfl (by unfold I64; omega) ?_
      refine o_assign rfl ?_
      refine o_nil ?_
      exact ⟨k - 1, by omega, n + 1, by omega, (by first | exact hst | exact at_old2 hst), .cons rfl (.cons (congrArg U.bool g95) (.cons rfl (.nil rfl)))⟩
    · refine k_exit ?_
      refine k_seq ?_
      refine k_seq ?_
      refine k_region ?_   -- region 6 outright.go:55
      refine o_assign rfl ?_
      refine o_nil ?_
      refine k_block ?_
      -- LOOP 2
      refine k_loop (fun k s => ∃ n : Nat, k + n = b.thins.length ∧ s.st[0]? = some (.box b.cs) ∧ Holds s [(1, .box 0 0), (3, .bool true), (5, .int .i64 n)]) (fun k s hI => ?_) b.thins.length _ ?_
      · obtain ⟨n, hk0, hst, hs⟩ := hI
        rw [hs.eq]
        refine k_seq ?_
        refine k_seq ?_
        refine k_region ?_   -- region 7 outright.go:55
        refine o_move rfl ?_
        refine o_move rfl ?_
        refine o_guard rfl rfl rfl rfl (fun _ => ?_) (fun h => absurd (h.symm.trans rfl) (by decide))
        refine o_move rfl ?_
        refine o_guard rfl rfl rfl rfl (fun _ => ?_) (fun h => absurd (h.symm.trans rfl) (by decide))
        first | refine o_faddr rfl rfl fld28_5 ?_ | refine o_faddrR rfl rfl fld28_5 ?_
        refine o_guard rfl rfl rfl rfl (fun _ => ?_) (fun h => absurd (h.symm.trans rfl) (by decide))
        first | refine o_load1 rfl rfl rfl sh25 rfl ?_ | refine o_load1 rfl rfl (at_set _ _ _) sh25 rfl ?_ | refine o_load1 rfl rfl (at_new _ _) sh25 rfl ?_ | refine o_load1 rfl rfl (at_old2 hst) sh25 rfl ?_ | refine o_load1 rfl rfl (at_old hst) sh25 rfl ?_ | refine o_load1 rfl rfl hst sh25 rfl ?_ | refine o_loadR1 rfl rfl sh25 rfl ?_
        refine o_guard rfl rfl rfl rfl (fun _ => ?_) (fun h => absurd (h.symm.trans rfl) (by decide))
        refine o_len rfl ty25 rfl rfl ?_
        refine o_guard rfl rfl rfl rfl (fun _ => ?_) (fun h => absurd (h.symm.trans rfl) (by decide))
        refine o_lss rfl rfl rfl ?_
        refine o_pickT rfl rfl rfl ?_
        refine o_nil ?_
        refine k_cond rfl (fun h2 => ?_) (fun h2 => ?_)   -- slot 104
        · have h3' : n < b.thins.length := by
            have := of_decide_eq_true h2
            simp at this; omega
          obtain ⟨q, hq⟩ : ∃ q, b.thins[n]? = some q := ⟨b.thins[n], List.getElem?_eq_getElem h3'⟩
          have hm := hk.thins q (List.mem_of_getElem? hq)
          have g112 : (decide (1 ≤ q.a) && (decide (q.a ≤ q.b) && decide (q.b ≤ 20))) = true := by simp; omega
          refine k_skip ?_
          refine k_seq ?_
          refine k_block ?_
          refine k_region ?_   -- region 9 outright.go:56
          first | refine o_faddr rfl rfl fld28_5 ?_ | refine o_faddrR rfl rfl fld28_5 ?_
          first | refine o_load1 rfl rfl rfl sh25 rfl ?_ | refine o_load1 rfl rfl (at_set _ _ _) sh25 rfl ?_ | refine o_load1 rfl rfl (at_new _ _) sh25 rfl ?_ | refine o_load1 rfl rfl (at_old2 hst) sh25 rfl ?_ | refine o_load1 rfl rfl (at_old hst) sh25 rfl ?_ | refine o_load1 rfl rfl hst sh25 rfl ?_ | refine o_loadR1 rfl rfl sh25 rfl ?_
          refine o_move rfl ?_
          refine o_idx (u := q.u) rfl ty25 rfl rfl (Int.natCast_nonneg n) (by simp [hq]) cl24 ?_
          first | refine o_loadN rfl rfl rfl sh24 rfl ?_ | refine o_loadN rfl rfl (at_set _ _ _) sh24 rfl ?_ | refine o_loadN rfl rfl (at_new _ _) sh24 rfl ?_ | refine o_loadN rfl rfl (at_old2 hst) sh24 rfl ?_ | refine o_loadN rfl rfl (at_old hst) sh24 rfl ?_ | refine o_loadN rfl rfl hst sh24 rfl ?_ | refine o_loadRN rfl rfl sh24 rfl ?_
          refine o_call rfl (ret23 hi _ _ _ _) (.lrefl _) ?_
          refine o_assign rfl ?_
          refine o_nil ?_
          refine k_region ?_   -- region 8 outright.go:55
          refine o_move rfl ?_
          refine o_add rfl rfl rfl (by unfold I64; omega) ?_
          refine o_assign rfl ?_
          refine o_nil ?_
          exact ⟨k - 1, by omega, n + 1, by omega, (by first | exact hst | exact at_old2 hst), .cons rfl (.cons (congrArg U.bool g112) (.cons rfl (.nil rfl)))⟩
        · refine k_exit ?_
          refine k_seq ?_
          refine k_seq ?_
          refine k_region ?_   -- region 10 outright.go:58
          refine o_assign rfl ?_
          refine o_nil ?_
          refine k_block ?_
          -- LOOP 3
          refine k_loop (fun k s => ∃ n : Nat, k + n = b.looks.length ∧ s.st[0]? = some (.box b.cs) ∧ Holds s [(1, .box 0 0), (3, .bool true), (6, .int .i64 n)]) (fun k s hI => ?_) b.looks.length _ ?_
          · obtain ⟨n, hk0, hst, hs⟩ := hI
            rw [hs.eq]
            refine k_seq ?_
            refine k_seq ?_
            refine k_region ?_   -- region 11 outright.go:58
            refine o_move rfl ?_
            refine o_move rfl ?_
            refine o_guard rfl rfl rfl rfl (fun _ => ?_) (fun h => absurd (h.symm.trans rfl) (by decide))
            refine o_move rfl ?_
            refine o_guard rfl rfl rfl rfl (fun _ => ?_) (fun h => absurd (h.symm.trans rfl) (by decide))
            first | refine o_faddr rfl rfl fld28_10 ?_ | refine o_faddrR rfl rfl fld28_10 ?_
            refine o_guard rfl rfl rfl rfl (fun _ => ?_) (fun h => absurd (h.symm.trans rfl) (by decide))
            first | refine o_load1 rfl rfl rfl sh26 rfl ?_ | refine o_load1 rfl rfl (at_set _ _ _) sh26 rfl ?_ | refine o_load1 rfl rfl (at_new _ _) sh26 rfl ?_ | refine o_load1 rfl rfl (at_old2 hst) sh26 rfl ?_ | refine o_load1 rfl rfl (at_old hst) sh26 rfl ?_ | refine o_load1 rfl rfl hst sh26 rfl ?_ | refine o_loadR1 rfl rfl sh26 rfl ?_
            refine o_guard rfl rfl rfl rfl (fun _ => ?_) (fun h => absurd (h.symm.trans rfl) (by decide))
            refine o_len rfl ty26 rfl rfl ?_
            refine o_guard rfl rfl rfl rfl (fun _ => ?_) (fun h => absurd (h.symm.trans rfl) (by decide))
            refine o_lss rfl rfl rfl ?_
            refine o_pickT rfl rfl rfl ?_
            refine o_nil ?_
            refine k_cond rfl (fun h3 => ?_) (fun h3 => ?_)   -- slot 120
            · have h3' : n < b.looks.length := by
                have := of_decide_eq_true h3
                simp at this; omega
              obtain ⟨q, hq⟩ : ∃ q, b.looks[n]? = some q := ⟨b.looks[n], List.getElem?_eq_getElem h3'⟩
              have hm := hk.looks q (List.mem_of_getElem? hq)
              have g131 : (decide (0 ≤ q.a) && decide (q.a ≤ 300)) = true := by simp; omega
              have g136 : (decide (0 ≤ q.b) && decide (q.b ≤ 3000)) = true := by simp; omega
              have g140 : (decide (0 ≤ q.c) && decide (q.c ≤ 50)) = true := by simp; omega
              refine k_skip ?_
              refine k_seq ?_
              refine k_block ?_
              refine k_seq ?_
              refine k_region ?_   -- region 13 outright.go:59
              first | refine o_faddr rfl rfl fld28_10 ?_ | refine o_faddrR rfl rfl fld28_10 ?_
              first | refine o_load1 rfl rfl rfl sh26 rfl ?_ | refine o_load1 rfl rfl (at_set _ _ _) sh26 rfl ?_ | refine o_load1 rfl rfl (at_new _ _) sh26 rfl ?_ | refine o_load1 rfl rfl (at_old2 hst) sh26 rfl ?_ | refine o_load1 rfl rfl (at_old hst) sh26 rfl ?_ | refine o_load1 rfl rfl hst sh26 rfl ?_ | refine o_loadR1 rfl rfl sh26 rfl ?_
              refine o_move rfl ?_
              refine o_idx (u := q.u) rfl ty26 rfl rfl (Int.natCast_nonneg n) (by simp [hq]) cl49 ?_
              first | refine o_loadN rfl rfl rfl sh49 rfl ?_ | refine o_loadN rfl rfl (at_set _ _ _) sh49 rfl ?_ | refine o_loadN rfl rfl (at_new _ _) sh49 rfl ?_ | refine o_loadN rfl rfl (at_old2 hst) sh49 rfl ?_ | refine o_loadN rfl rfl (at_old hst) sh49 rfl ?_ | refine o_loadN rfl rfl hst sh49 rfl ?_ | refine o_loadRN rfl rfl sh49 rfl ?_
              refine o_alloc rfl ze49 ?_
              first | refine o_storeN rfl rfl sh49 rfl rfl rfl rfl rfl ?_ | refine o_storeN rfl (at_new _ _) sh49 rfl rfl rfl rfl rfl ?_ | refine o_storeN rfl (at_set _ _ _) sh49 rfl rfl rfl rfl rfl ?_ | refine o_storeN rfl (at_old2 hst) sh49 rfl rfl rfl rfl rfl ?_ | refine o_storeN rfl (at_old hst) sh49 rfl rfl rfl rfl rfl ?_ | refine o_storeN rfl hst sh49 rfl rfl rfl rfl rfl ?_
              refine o_nil ?_
              refine k_region ?_   -- region 14 outright.go:60
              first | refine o_faddr rfl rfl fld49_0 ?_ | refine o_faddrR rfl rfl fld49_0 ?_
              first | refine o_load1 rfl rfl rfl sh3 rfl ?_ | refine o_load1 rfl rfl (at_set _ _ _) sh3 rfl ?_ | refine o_load1 rfl rfl (at_new _ _) sh3 rfl ?_ | refine o_load1 rfl rfl (at_old2 hst) sh3 rfl ?_ | refine o_load1 rfl rfl (at_old hst) sh3 rfl ?_ | refine o_load1 rfl rfl hst sh3 rfl ?_ | refine o_loadR1 rfl rfl sh3 rfl ?_
              refine o_call rfl (ret15 hi _ _ _) (.lrefl _) ?_
              refine o_move rfl ?_
              refine o_guard rfl rfl rfl rfl (fun _ => ?_) (fun h => absurd (h.symm.trans g131) (by decide))
              first | refine o_faddr rfl rfl fld49_1 ?_ | refine o_faddrR rfl rfl fld49_1 ?_
              refine o_guard rfl rfl rfl rfl (fun _ => ?_) (fun h => absurd (h.symm.trans g131) (by decide))
              first | refine o_load1 rfl rfl rfl sh3 rfl ?_ | refine o_load1 rfl rfl (at_set _ _ _) sh3 rfl ?_ | refine o_load1 rfl rfl (at_new _ _) sh3 rfl ?_ | refine o_load1 rfl rfl (at_old2 hst) sh3 rfl ?_ | refine o_load1 rfl rfl (at_old hst) sh3 rfl ?_ | refine o_load1 rfl rfl hst sh3 rfl ?_ | refine o_loadR1 rfl rfl sh3 rfl ?_
              refine o_guard rfl rfl rfl rfl (fun _ => ?_) (fun h => absurd (h.symm.trans g131) (by decide))
              refine o_call rfl (ret15 hi _ _ _) (.lrefl _) ?_
              refine o_pickT rfl rfl g131 ?_
              refine o_move rfl ?_
              refine o_guard rfl rfl rfl rfl (fun _ => ?_) (fun h => absurd (h.symm.trans g136) (by decide))
              first | refine o_faddr rfl rfl fld49_2 ?_ | refine o_faddrR rfl rfl fld49_2 ?_
              refine o_guard rfl rfl rfl rfl (fun _ => ?_) (fun h => absurd (h.symm.trans g136) (by decide))
              first | refine o_load1 rfl rfl rfl sh3 rfl ?_ | refine o_load1 rfl rfl (at_set _ _ _) sh3 rfl ?_ | refine o_load1 rfl rfl (at_new _ _) sh3 rfl ?_ | refine o_load1 rfl rfl (at_old2 hst) sh3 rfl ?_ | refine o_load1 rfl rfl (at_old hst) sh3 rfl ?_ | refine o_load1 rfl rfl hst sh3 rfl ?_ | refine o_loadR1 rfl rfl sh3 rfl ?_
              refine o_guard rfl rfl rfl rfl (fun _ => ?_) (fun h => absurd (h.symm.trans g136) (by decide))
              refine o_call rfl (ret15 hi _ _ _) (.lrefl _) ?_
              refine o_pickT rfl rfl g136 ?_
              refine o_assign rfl ?_
              refine o_nil ?_
              refine k_region ?_   -- region 12 outright.go:58
              refine o_move rfl ?_
              refine o_add rfl rfl rfl (by unfold I64; omega) ?_
              refine o_assign rfl ?_
              refine o_nil ?_
              exact ⟨k - 1, by omega, n + 1, by omega, (by first | exact hst | exact at_old2 hst), .cons rfl (.cons (congrArg U.bool g140) (.cons rfl (.nil rfl)))⟩
            · refine k_exit ?_
              refine k_seq ?_
              refine k_region ?_   -- region 15 outright.go:62
              refine o_move rfl ?_
              refine o_assign rfl ?_
              refine o_nil ?_
              refine k_ret ?_
              refine ⟨.inr rfl, _, .cons _ _ _ _ (.tmp 2) .nil, ?_⟩
              exact .refl _
          · exact ⟨0, rfl, hst, .cons rfl (.cons rfl (.cons rfl (.nil rfl)))⟩
      · exact ⟨0, rfl, hst, .cons rfl (.cons rfl (.cons rfl (.nil rfl)))⟩
  · exact ⟨0, rfl, rfl, .cons rfl (.cons (congrArg U.bool g69) (.cons rfl (.nil rfl)))⟩

set_option maxHeartbeats 4000000 in
theorem ret7n (hi : Off is) {b : Bk} (hv : checkR b ≠ 0) : RetP Try.prog is orc 7 [b.u] (.bool false) := by
  refine ret_of body7 pure7 (hi 7 (by decide)) rfl rfl (dat_l1 (dat_bk b 5)) (.inl (.bool _ _)) ?_
  have g11 : decide (checkR b = 0) = false := decide_eq_false hv
  refine k_seq ?_
  refine k_region ?_   -- region 0 outright.go:50
  refine o_box rfl rfl ?_
  refine o_assign rfl ?_
  refine o_nil ?_
  refine k_seq ?_
  refine k_region ?_   -- region 1 outright.go:51
  first | refine o_loadN rfl rfl rfl sh28 rfl ?_ | refine o_loadRN rfl rfl sh28 rfl ?_
  refine o_call rfl (ret24 hi b) (.lrefl _) ?_
  refine o_eql rfl rfl rfl ?_
  refine o_move rfl ?_
  refine o_guard rfl rfl rfl rfl (fun h => absurd (h.symm.trans g11) (by decide)) (fun _ => ?_)
  refine o_guard rfl rfl rfl rfl (fun h => absurd (h.symm.trans g11) (by decide)) (fun _ => ?_)
  refine o_guard rfl rfl rfl rfl (fun h => absurd (h.symm.trans g11) (by decide)) (fun _ => ?_)
  refine o_guard rfl rfl rfl rfl (fun h => absurd (h.symm.trans g11) (by decide)) (fun _ => ?_)
  refine o_pickF rfl rfl g11 ?_
  refine o_move rfl ?_
  refine o_guard rfl rfl rfl rfl (fun h => by cases h) (fun _ => ?_)
  refine o_guard rfl rfl rfl rfl (fun h => by cases h) (fun _ => ?_)
  refine o_guard rfl rfl rfl rfl (fun h => by cases h) (fun _ => ?_)
  refine o_pickF rfl rfl rfl ?_
  refine o_move rfl ?_
  refine o_guard rfl rfl rfl rfl (fun h => by cases h) (fun _ => ?_)
  refine o_guard rfl rfl rfl rfl (fun h => by cases h) (fun _ => ?_)
  refine o_guard rfl rfl rfl rfl (fun h => by cases h) (fun _ => ?_)
  refine o_pickF rfl rfl rfl ?_
  refine o_move rfl ?_
  refine o_guard rfl rfl rfl rfl (fun h => by cases h) (fun _ => ?_)
  refine o_guard rfl rfl rfl rfl (fun h => by cases h) (fun _ => ?_)
  refine o_guard rfl rfl rfl rfl (fun h => by cases h) (fun _ => ?_)
  refine o_pickF rfl rfl rfl ?_
  refine o_move rfl ?_
  refine o_guard rfl rfl rfl rfl (fun h => by cases h) (fun _ => ?_)
  refine o_guard rfl rfl rfl rfl (fun h => by cases h) (fun _ => ?_)
  refine o_guard rfl rfl rfl rfl (fun h => by cases h) (fun _ => ?_)
  refine o_pickF rfl rfl rfl ?_
  refine o_move rfl ?_
  refine o_guard rfl rfl rfl rfl (fun h => by cases h) (fun _ => ?_)
  refine o_guard rfl rfl rfl rfl (fun h => by cases h) (fun _ => ?_)
  refine o_guard rfl rfl rfl rfl (fun h => by cases h) (fun _ => ?_)
  refine o_guard rfl rfl rfl rfl (fun h => by cases h) (fun _ => ?_)
  refine o_pickF rfl rfl rfl ?_
  refine o_move rfl ?_
  refine o_guard rfl rfl rfl rfl (fun h => by cases h) (fun _ => ?_)
  refine o_guard rfl rfl rfl rfl (fun h => by cases h) (fun _ => ?_)
  refine o_guard rfl rfl rfl rfl (fun h => by cases h) (fun _ => ?_)
  refine o_pickF rfl rfl rfl ?_
  refine o_move rfl ?_
  refine o_guard rfl rfl rfl rfl (fun h => by cases h) (fun _ => ?_)
  refine o_guard rfl rfl rfl rfl (fun h => by cases h) (fun _ => ?_)
  refine o_guard rfl rfl rfl rfl (fun h => by cases h) (fun _ => ?_)
  refine o_guard rfl rfl rfl rfl (fun h => by cases h) (fun _ => ?_)
  refine o_guard rfl rfl rfl rfl (fun h => by cases h) (fun _ => ?_)
  refine o_pickF rfl rfl rfl ?_
  refine o_move rfl ?_
  refine o_guard rfl rfl rfl rfl (fun h => by cases h) (fun _ => ?_)
  refine o_guard rfl rfl rfl rfl (fun h => by cases h) (fun _ => ?_)
  refine o_guard rfl rfl rfl rfl (fun h => by cases h) (fun _ => ?_)
  refine o_pickF rfl rfl rfl ?_
  refine o_move rfl ?_
  refine o_guard rfl rfl rfl rfl (fun h => by cases h) (fun _ => ?_)
  refine o_guard rfl rfl rfl rfl (fun h => by cases h) (fun _ => ?_)
  refine o_guard rfl rfl rfl rfl (fun h => by cases h) (fun _ => ?_)
  refine o_pickF rfl rfl rfl ?_
  refine o_move rfl ?_
  refine o_guard rfl rfl rfl rfl (fun h => by cases h) (fun _ => ?_)
  refine o_guard rfl rfl rfl rfl (fun h => by cases h) (fun _ => ?_)
  refine o_guard rfl rfl rfl rfl (fun h => by cases h) (fun _ => ?_)
  refine o_guard rfl rfl rfl rfl (fun h => by cases h) (fun _ => ?_)
  refine o_pickF rfl rfl rfl ?_
  refine o_assign rfl ?_
  refine o_nil ?_
  refine k_seq ?_
  refine k_seq ?_
  refine k_region ?_   -- region 2 outright.go:52
  refine o_assign rfl ?_
  refine o_nil ?_
  refine k_block ?_
  -- LOOP 1
  refine k_loop (fun k s => s.st[0]? = some (.box b.cs) ∧ Holds s [(1, .box 0 0), (3, .bool false), (4, .int .i64 0)]) (fun k s hI => ?_) 0 _ ?_
  · obtain ⟨hst, hs⟩ := hI
    rw [hs.eq]
    refine k_seq ?_
    refine k_seq ?_
    refine k_region ?_   -- region 3 outright.go:52
    refine o_move rfl ?_
    refine o_move rfl ?_
    refine o_guard rfl rfl rfl rfl (fun h => absurd (h.symm.trans rfl) (by decide)) (fun _ => ?_)
    refine o_guard rfl rfl rfl rfl (fun h => absurd (h.symm.trans rfl) (by decide)) (fun _ => ?_)
    refine o_guard rfl rfl rfl rfl (fun h => absurd (h.symm.trans rfl) (by decide)) (fun _ => ?_)
    refine o_guard rfl rfl rfl rfl (fun h => absurd (h.symm.trans rfl) (by decide)) (fun _ => ?_)
    refine o_guard rfl rfl rfl rfl (fun h => absurd (h.symm.trans rfl) (by decide)) (fun _ => ?_)
    refine o_pickF rfl rfl rfl ?_
    refine o_nil ?_
    refine k_cond rfl (fun h => by cases h) (fun _ => ?_)
    refine k_exit ?_
    refine k_seq ?_
    refine k_seq ?_
    refine k_region ?_   -- region 6 outright.go:55
    refine o_assign rfl ?_
    refine o_nil ?_
    refine k_block ?_
    -- LOOP 2
    refine k_loop (fun k s => s.st[0]? = some (.box b.cs) ∧ Holds s [(1, .box 0 0), (3, .bool false), (5, .int .i64 0)]) (fun k s hI => ?_) 0 _ ?_
    · obtain ⟨hst, hs⟩ := hI
      rw [hs.eq]
      refine k_seq ?_
      refine k_seq ?_
      refine k_region ?_   -- region 7 outright.go:55
      refine o_move rfl ?_
      refine o_move rfl ?_
      refine o_guard rfl rfl rfl rfl (fun h => absurd (h.symm.trans rfl) (by decide)) (fun _ => ?_)
      refine o_guard rfl rfl rfl rfl (fun h => absurd (h.symm.trans rfl) (by decide)) (fun _ => ?_)
      refine o_guard rfl rfl rfl rfl (fun h => absurd (h.symm.trans rfl) (by decide)) (fun _ => ?_)
      refine o_guard rfl rfl rfl rfl (fun h => absurd (h.symm.trans rfl) (by decide)) (fun _ => ?_)
      refine o_guard rfl rfl rfl rfl (fun h => absurd (h.symm.trans rfl) (by decide)) (fun _ => ?_)
      refine o_pickF rfl rfl rfl ?_
      refine o_nil ?_
      refine k_cond rfl (fun h => by cases h) (fun _ => ?_)
      refine k_exit ?_
      refine k_seq ?_
      refine k_seq ?_
      refine k_region ?_   -- region 10 outright.go:58
      refine o_assign rfl ?_
      refine o_nil ?_
      refine k_block ?_
      -- LOOP 3
      refine k_loop (fun k s => s.st[0]? = some (.box b.cs) ∧ Holds s [(1, .box 0 0), (3, .bool false), (6, .int .i64 0)]) (fun k s hI => ?_) 0 _ ?_
      · obtain ⟨hst, hs⟩ := hI
        rw [hs.eq]
        refine k_seq ?_
        refine k_seq ?_
        refine k_region ?_   -- region 11 outright.go:58
        refine o_move rfl ?_
        refine o_move rfl ?_
        refine o_guard rfl rfl rfl rfl (fun h => absurd (h.symm.trans rfl) (by decide)) (fun _ => ?_)
        refine o_guard rfl rfl rfl rfl (fun h => absurd (h.symm.trans rfl) (by decide)) (fun _ => ?_)
        refine o_guard rfl rfl rfl rfl (fun h => absurd (h.symm.trans rfl) (by decide)) (fun _ => ?_)
        refine o_guard rfl rfl rfl rfl (fun h => absurd (h.symm.trans rfl) (by decide)) (fun _ => ?_)
        refine o_guard rfl rfl rfl rfl (fun h => absurd (h.symm.trans rfl) (by decide)) (fun _ => ?_)
        refine o_pickF rfl rfl rfl ?_
        refine o_nil ?_
        refine k_cond rfl (fun h => by cases h) (fun _ => ?_)
        refine k_exit ?_
        refine k_seq ?_
        refine k_region ?_   -- region 15 outright.go:62
        refine o_move rfl ?_
        refine o_assign rfl ?_
        refine o_nil ?_
        refine k_ret ?_
        refine ⟨.inr rfl, _, .cons _ _ _ _ (.tmp 2) .nil, ?_⟩
        exact .refl _
      · exact ⟨hst, .cons rfl (.cons rfl (.cons rfl (.nil rfl)))⟩
    · exact ⟨hst, .cons rfl (.cons rfl (.cons rfl (.nil rfl)))⟩
  · exact ⟨rfl, .cons rfl (.cons rfl (.cons rfl (.nil rfl)))⟩

theorem ty4 : tyOf Try.prog 4 = .bool := by kernel_rfl
theorem ty42 : tyOf Try.prog 42 = .array 2 3 := by kernel_rfl
theorem span_neq (a b : Int) : binV Try.prog 24 .neq (valK (spanU a b)) (valK (spanU a b)) = some (.bool false) := by
  have h : binV Try.prog 24 .neq (valK (spanU a b)) (valK (spanU a b)) = opt none (fun x => some (V.bool (not x))) (Vam.cond (ieq a a) (Vam.cond (ieq b b) (some true) (some false)) (some false)) := by kernel_rfl
  rw [h, ieq_eq, ieq_eq, show (a == a) = true by simp, show (b == b) = true by simp]; rfl
theorem k_gen {c : Code} {s : St} {Q : Ex → St → Prop} (l : List (Nat × U)) (st : List SB) (h1 : Holds s l) (h2 : s.st = st) (k : ∀ fr : Nat → U, Wp Try.prog is orc c ⟨fun j => lookU l j (fr j), [], st⟩ Q) : Wp Try.prog is orc c s Q := by
  rw [h1.eq]
  subst h2
  exact k s.fr
theorem hin_anti {b : Bk} (hk : Ok b) {d e : Int} (hd : 1 ≤ d) (h : d ≤ e) : hin b e ≤ hin b d := by
  have q := hk.least
  have h1 : 0 ≤ (b.hot - b.least) / e := Int.ediv_nonneg (by omega) (by omega)
  have h2 : (b.hot - b.least) / e * e ≤ b.hot - b.least := Int.ediv_mul_le _ (by omega)
  have h3 := Int.mul_le_mul_of_nonneg_left h h1
  have h4 : (b.hot - b.least) / e ≤ (b.hot - b.least) / d := (Int.le_ediv_iff_mul_le (by omega)).2 (by omega)
  unfold hin; omega
theorem hat_mono {b : Bk} (hk : Ok b) {d n m : Int} (hd : 1 ≤ d) (h : n ≤ m) : hat b n d ≤ hat b m d := by
  have h1 := (hin_ge hk hd).1
  exact ceil_le h1 (Int.le_trans h (ceil_up h1))
theorem hat_anti {b : Bk} (hk : Ok b) {d e n : Int} (hd : 1 ≤ d) (h : d ≤ e) (hn : 0 ≤ n) : hat b n d ≤ hat b n e := by
  have h1 := (hin_ge hk hd).1
  have h2 := (hin_ge hk (show 1 ≤ e by omega)).1
  refine ceil_le h1 (Int.le_trans (ceil_up h2) ?_)
  exact Int.mul_le_mul_of_nonneg_left (hin_anti hk hd h) (ceil_ge0 h2 hn)
theorem hat_add {b : Bk} (hk : Ok b) {d n m : Int} (hd : 1 ≤ d) : hat b (n + m) d ≤ hat b n d + hat b m d := by
  have h1 := (hin_ge hk hd).1
  refine ceil_le h1 ?_
  rw [Int.add_mul]
  exact Int.add_le_add (ceil_up h1) (ceil_up h1)
theorem hat_pos {b : Bk} (hk : Ok b) {d n : Int} (hd : 1 ≤ d) (hn : 0 < n) : 0 < hat b n d := by
  have h1 := (hin_ge hk hd).1
  have h2 : n ≤ hat b n d * hin b d := ceil_up h1
  rcases Int.lt_or_le 0 (hat b n d) with h | h
  · exact h
  · have := Int.mul_nonneg (show 0 ≤ -(hat b n d) by omega) (show 0 ≤ hin b d by omega)
    rw [Int.neg_mul] at this; omega
/-- of a heat's blows all but the last one leave the disc hot enough -/
theorem hat_hot {b : Bk} (hk : Ok b) {n : Int} (hn : 0 < n) : 0 ≤ (n + hat b n b.clo - 1) / hat b n b.clo - 1 ∧ (n + hat b n b.clo - 1) / hat b n b.clo - 1 ≤ 1500 ∧ b.clo * ((n + hat b n b.clo - 1) / hat b n b.clo - 1) ≤ b.hot - b.least := by
  have hd := hk.cool
  have q := hk.least
  have h1 := hin_ge hk (show 1 ≤ b.clo by omega)
  have h2 := hat_pos hk (show 1 ≤ b.clo by omega) hn
  have h3 : (n + hat b n b.clo - 1) / hat b n b.clo ≤ hin b b.clo := ceil_le (by omega) (by rw [Int.mul_comm]; exact ceil_up h1.1)
  have h4 : 1 ≤ (n + hat b n b.clo - 1) / hat b n b.clo := (Int.le_ediv_iff_mul_le h2).2 (by omega)
  have h5 : (b.hot - b.least) / b.clo * b.clo ≤ b.hot - b.least := Int.ediv_mul_le _ (by omega)
  have h6 : ((n + hat b n b.clo - 1) / hat b n b.clo - 1) * b.clo ≤ (b.hot - b.least) / b.clo * b.clo := Int.mul_le_mul_of_nonneg_right (by unfold hin at h3; omega) (by omega)
  rw [Int.mul_comm b.clo]
  refine ⟨by omega, by omega, Int.le_trans h6 h5⟩

-- 6 saron/saronlaw02.ForgeHeats params [28, 42] pure True
noncomputable def b6 : Code := (Try.f6.body).getD .skip
theorem body6 : bodyOf Try.prog 6 = some (186, b6, [.tmp 4]) := by kernel_rfl
theorem pure6 : pureFn Try.prog 6 = true := by kernel_rfl
set_option maxHeartbeats 4000000 in
theorem ret6 (hi : Off is) {b : Bk} (hk : Ok b) (n0 n1 : Int) (r8 : RetP Try.prog is orc 8 [] (.bool true)) : RetP Try.prog is orc 6 [b.u, .agg [.int .i64 n0, .int .i64 n1]] (.bool true) := by
  refine ret_of body6 pure6 (hi 6 (by decide)) rfl rfl (dat_l2 (dat_bk b 5) (.agg _ _ (dat_l2 (.int _ _ _) (.int _ _ _)))) (.inl (.bool _ _)) ?_
  have c1 := hk.cool; have c2 := hk.coal; have c3 := hk.hot; have c4 := hk.least
  have i0 := Int.emod_nonneg n0 (show (151 : Int) ≠ 0 by decide); have i1 := Int.emod_lt_of_pos n0 (show (0 : Int) < 151 by decide)
  have k0 := Int.emod_nonneg n1 (show (151 : Int) ≠ 0 by decide); have k1 := Int.emod_lt_of_pos n1 (show (0 : Int) < 151 by decide)
  have d1 : 1 ≤ b.clo := by omega
  have d2 : 1 ≤ b.chi := by omega
  have a1 := hat_b hk d1 i0; have a2 := hat_b hk d2 i0; have a3 := hat_b hk d1 k0; have a4 := hat_b hk d2 k0
  have a5 := hat_b hk d1 (show 0 ≤ n0 % 151 + n1 % 151 by omega); have a6 := hat_b hk d2 (show 0 ≤ n0 % 151 + n1 % 151 by omega)
  have e1 := hat_anti hk d1 c1.2.1 i0; have e2 := hat_anti hk d1 c1.2.1 k0
  have g65 : (!(decide (0 ≤ (hat b (n0 % 151) b.clo)) && (decide ((hat b (n0 % 151) b.clo) ≤ (hat b (n0 % 151) b.chi)) && decide ((hat b (n0 % 151) b.chi) ≤ n0 % 151)))) = false := by simp; omega
  have g71 : (!(decide (0 ≤ (hat b (n1 % 151) b.clo)) && (decide ((hat b (n1 % 151) b.clo) ≤ (hat b (n1 % 151) b.chi)) && decide ((hat b (n1 % 151) b.chi) ≤ n1 % 151)))) = false := by simp; omega
  have g78 : decide (decide (0 < n0 % 151) ≠ decide (0 < (hat b (n0 % 151) b.clo))) = false := by
    rcases Int.lt_or_le 0 (n0 % 151) with h | h
    · have := hat_pos hk d1 h
      simp [h, this]
    · have : ¬ 0 < (hat b (n0 % 151) b.clo) := by omega
      have h : ¬ 0 < n0 % 151 := by omega
      simp only [h, this]; decide
  have m1 := hat_mono hk d1 (show n0 % 151 ≤ n0 % 151 + n1 % 151 by omega); have m2 := hat_mono hk d1 (show n1 % 151 ≤ n0 % 151 + n1 % 151 by omega)
  have m3 := hat_mono hk d2 (show n0 % 151 ≤ n0 % 151 + n1 % 151 by omega); have m4 := hat_mono hk d2 (show n1 % 151 ≤ n0 % 151 + n1 % 151 by omega)
  have g153 : decide (max (hat b (n0 % 151) b.clo) (hat b (n1 % 151) b.clo) ≤ (hat b (n0 % 151 + n1 % 151) b.clo)) = true := by simp; omega
  have g163 : decide (max (hat b (n0 % 151) b.chi) (hat b (n1 % 151) b.chi) ≤ (hat b (n0 % 151 + n1 % 151) b.chi)) = true := by simp; omega
  have g173 : decide ((hat b (n0 % 151 + n1 % 151) b.clo) ≤ (hat b (n0 % 151) b.clo) + (hat b (n1 % 151) b.clo)) = true := decide_eq_true (hat_add hk d1)
  have g183 : decide ((hat b (n0 % 151 + n1 % 151) b.chi) ≤ (hat b (n0 % 151) b.chi) + (hat b (n1 % 151) b.chi)) = true := decide_eq_true (hat_add hk d2)
  refine k_seq ?_
  refine k_region ?_   -- region 0 outright.go:445
  refine o_box rfl rfl ?_
  refine o_box rfl rfl ?_
  refine o_assign rfl ?_
  refine o_nil ?_
  refine k_seq ?_
  refine k_seq ?_
  refine k_region ?_   -- region 1 outright.go:446
  first | refine o_loadN rfl rfl rfl sh28 rfl ?_ | refine o_loadRN rfl rfl sh28 rfl ?_
  refine o_call rfl (ret7 hi hk) (.lrefl _) ?_
  refine o_not rfl rfl ?_
  refine o_nil ?_
  refine k_cond rfl (fun h => absurd (h.symm.trans rfl) (by decide)) (fun _ => ?_)
  refine k_skip ?_
  refine k_seq ?_
  refine k_draw [.plain, .read true, .read false, .plain, .read true, .plain, .plain, .plain] (by kernel_rfl) (by kernel_rfl) (by kernel_rfl) ?_   -- region 3
  first | refine d_plain (o_idxA rfl ty42 rfl rfl (by omega) (by omega) cl3 (o_nil rfl)) ?_ | refine d_plain (o_idxE rfl ty42 rfl rfl (by omega) (by omega) cl3 (o_nil rfl)) ?_
  first | refine d_load rfl (o_load1 rfl rfl rfl sh3 rfl (o_nil rfl)) ?_ | refine d_load rfl (o_loadR1 rfl rfl sh3 rfl (o_nil rfl)) ?_
  refine d_callR rfl (ret11 hi n0 151 (by decide) (by decide)) (flat_int _) (.lrefl _) ?_
  first | refine d_plain (o_idxA rfl ty42 rfl rfl (by omega) (by omega) cl3 (o_nil rfl)) ?_ | refine d_plain (o_idxE rfl ty42 rfl rfl (by omega) (by omega) cl3 (o_nil rfl)) ?_
  first | refine d_load rfl (o_load1 rfl rfl rfl sh3 rfl (o_nil rfl)) ?_ | refine d_load rfl (o_loadR1 rfl rfl sh3 rfl (o_nil rfl)) ?_
  refine d_plain (o_call rfl (ret11 hi n1 151 (by decide) (by decide)) (.lrefl _) (o_nil rfl)) ?_
  refine d_plain (o_assign rfl (o_nil rfl)) ?_
  refine d_plain (o_assign rfl (o_nil rfl)) ?_
  refine d_nil ?_
  refine k_gen [(2, .box 0 0), (5, .int .i64 (n0 % 151)), (6, .int .i64 (n1 % 151))] [.box [.lst .ro 3 (trisU b.lots), .int .i64 b.tlo, .int .i64 b.thi, .int .i64 b.thick, .int .i64 b.crack, .int .i64 b.glo, .int .i64 b.ghi, .lst .ro 2 (twosU b.thins), .int .i64 b.hot, .int .i64 b.least, .int .i64 b.clo, .int .i64 b.chi, .int .i64 b.coal, .lst .ro 3 (trisU b.looks)], .box [.int .i64 n0, .int .i64 n1]] (.cons rfl (.cons rfl (.cons rfl (.nil rfl)))) rfl fun fr => ?_
  refine k_seq ?_
  refine k_region ?_   -- region 4 outright.go:450
  first | refine o_loadN rfl rfl rfl sh28 rfl ?_ | refine o_loadRN rfl rfl sh28 rfl ?_
  refine o_move rfl ?_
  refine o_call rfl (ret22 hi hk (n0 % 151) (by omega)) (.lrefl _) ?_
  refine o_move rfl ?_
  refine o_extract rfl rfl rfl ?_
  refine o_extract rfl rfl rfl ?_
  refine o_extract rfl rfl rfl ?_
  refine o_alloc rfl ze24 ?_
  refine o_alloc rfl ze24 ?_
  refine o_storeN rfl rfl sh24 rfl rfl rfl rfl rfl ?_
  refine o_storeN rfl rfl sh24 rfl rfl rfl rfl rfl ?_
  refine o_assign rfl ?_
  refine o_nil ?_
  refine k_gen [(2, .box 0 0), (5, .int .i64 (n0 % 151)), (6, .int .i64 (n1 % 151)), (7, .box 2 0), (8, .box 3 0), (9, .int .i64 0)] [.box [.lst .ro 3 (trisU b.lots), .int .i64 b.tlo, .int .i64 b.thi, .int .i64 b.thick, .int .i64 b.crack, .int .i64 b.glo, .int .i64 b.ghi, .lst .ro 2 (twosU b.thins), .int .i64 b.hot, .int .i64 b.least, .int .i64 b.clo, .int .i64 b.chi, .int .i64 b.coal, .lst .ro 3 (trisU b.looks)], .box [.int .i64 n0, .int .i64 n1], .box [.int .i64 (hat b (n0 % 151) b.clo), .int .i64 (hat b (n0 % 151) b.chi)], .box [.int .i64 ((hat b (n0 % 151) b.clo) * b.coal), .int .i64 ((hat b (n0 % 151) b.chi) * b.coal)]] (.cons rfl (.cons rfl (.cons rfl (.cons rfl (.cons rfl (.cons rfl (.nil rfl))))))) rfl fun fr => ?_
  refine k_seq ?_
  refine k_region ?_   -- region 5 outright.go:451
  first | refine o_loadN rfl rfl rfl sh28 rfl ?_ | refine o_loadRN rfl rfl sh28 rfl ?_
  refine o_move rfl ?_
  refine o_call rfl (ret22 hi hk (n1 % 151) (by omega)) (.lrefl _) ?_
  refine o_move rfl ?_
  refine o_extract rfl rfl rfl ?_
  refine o_extract rfl rfl rfl ?_
  refine o_extract rfl rfl rfl ?_
  refine o_alloc rfl ze24 ?_
  refine o_alloc rfl ze24 ?_
  refine o_storeN rfl rfl sh24 rfl rfl rfl rfl rfl ?_
  refine o_storeN rfl rfl sh24 rfl rfl rfl rfl rfl ?_
  refine o_assign rfl ?_
  refine o_nil ?_
  refine k_gen [(2, .box 0 0), (5, .int .i64 (n0 % 151)), (6, .int .i64 (n1 % 151)), (7, .box 2 0), (8, .box 3 0), (9, .int .i64 0), (10, .box 4 0), (11, .box 5 0), (12, .int .i64 0)] [.box [.lst .ro 3 (trisU b.lots), .int .i64 b.tlo, .int .i64 b.thi, .int .i64 b.thick, .int .i64 b.crack, .int .i64 b.glo, .int .i64 b.ghi, .lst .ro 2 (twosU b.thins), .int .i64 b.hot, .int .i64 b.least, .int .i64 b.clo, .int .i64 b.chi, .int .i64 b.coal, .lst .ro 3 (trisU b.looks)], .box [.int .i64 n0, .int .i64 n1], .box [.int .i64 (hat b (n0 % 151) b.clo), .int .i64 (hat b (n0 % 151) b.chi)], .box [.int .i64 ((hat b (n0 % 151) b.clo) * b.coal), .int .i64 ((hat b (n0 % 151) b.chi) * b.coal)], .box [.int .i64 (hat b (n1 % 151) b.clo), .int .i64 (hat b (n1 % 151) b.chi)], .box [.int .i64 ((hat b (n1 % 151) b.clo) * b.coal), .int .i64 ((hat b (n1 % 151) b.chi) * b.coal)]] (.cons rfl (.cons rfl (.cons rfl (.cons rfl (.cons rfl (.cons rfl (.cons rfl (.cons rfl (.cons rfl (.nil rfl)))))))))) rfl fun fr => ?_
  refine k_seq ?_
  refine k_region ?_   -- region 6 outright.go:452
  first | refine o_loadN rfl rfl rfl sh28 rfl ?_ | refine o_loadRN rfl rfl sh28 rfl ?_
  refine o_move rfl ?_
  refine o_move rfl ?_
  refine o_add rfl rfl rfl (by unfold I64; omega) ?_
  refine o_call rfl (ret22 hi hk (n0 % 151 + n1 % 151) (by omega)) (.lrefl _) ?_
  refine o_move rfl ?_
  refine o_extract rfl rfl rfl ?_
  refine o_extract rfl rfl rfl ?_
  refine o_extract rfl rfl rfl ?_
  refine o_alloc rfl ze24 ?_
  refine o_alloc rfl ze24 ?_
  refine o_storeN rfl rfl sh24 rfl rfl rfl rfl rfl ?_
  refine o_storeN rfl rfl sh24 rfl rfl rfl rfl rfl ?_
  refine o_assign rfl ?_
  refine o_nil ?_
  refine k_gen [(2, .box 0 0), (5, .int .i64 (n0 % 151)), (6, .int .i64 (n1 % 151)), (7, .box 2 0), (8, .box 3 0), (9, .int .i64 0), (10, .box 4 0), (11, .box 5 0), (12, .int .i64 0), (13, .box 6 0), (14, .box 7 0), (15, .int .i64 0)] [.box [.lst .ro 3 (trisU b.lots), .int .i64 b.tlo, .int .i64 b.thi, .int .i64 b.thick, .int .i64 b.crack, .int .i64 b.glo, .int .i64 b.ghi, .lst .ro 2 (twosU b.thins), .int .i64 b.hot, .int .i64 b.least, .int .i64 b.clo, .int .i64 b.chi, .int .i64 b.coal, .lst .ro 3 (trisU b.looks)], .box [.int .i64 n0, .int .i64 n1], .box [.int .i64 (hat b (n0 % 151) b.clo), .int .i64 (hat b (n0 % 151) b.chi)], .box [.int .i64 ((hat b (n0 % 151) b.clo) * b.coal), .int .i64 ((hat b (n0 % 151) b.chi) * b.coal)], .box [.int .i64 (hat b (n1 % 151) b.clo), .int .i64 (hat b (n1 % 151) b.chi)], .box [.int .i64 ((hat b (n1 % 151) b.clo) * b.coal), .int .i64 ((hat b (n1 % 151) b.chi) * b.coal)], .box [.int .i64 (hat b (n0 % 151 + n1 % 151) b.clo), .int .i64 (hat b (n0 % 151 + n1 % 151) b.chi)], .box [.int .i64 ((hat b (n0 % 151 + n1 % 151) b.clo) * b.coal), .int .i64 ((hat b (n0 % 151 + n1 % 151) b.chi) * b.coal)]] (.cons rfl (.cons rfl (.cons rfl (.cons rfl (.cons rfl (.cons rfl (.cons rfl (.cons rfl (.cons rfl (.cons rfl (.cons rfl (.cons rfl (.nil rfl))))))))))))) rfl fun fr => ?_
  refine k_seq ?_
  refine k_seq ?_
  refine k_region ?_   -- region 7 outright.go:453
  refine o_move rfl ?_
  refine o_neq rfl rfl rfl ?_
  refine o_move rfl ?_
  refine o_guard rfl rfl rfl rfl (fun _ => ?_) (fun h => absurd (h.symm.trans (decide_eq_false (fun h => h rfl))) (by decide))
  refine o_move rfl ?_
  refine o_guard rfl rfl rfl rfl (fun _ => ?_) (fun h => absurd (h.symm.trans (decide_eq_false (fun h => h rfl))) (by decide))
  refine o_neq rfl rfl rfl ?_
  refine o_pickF rfl rfl (decide_eq_false (fun h => h rfl)) ?_
  refine o_move rfl ?_
  refine o_guard rfl rfl rfl rfl (fun _ => ?_) (fun h => absurd (h.symm.trans (decide_eq_false (fun h => h rfl))) (by decide))
  refine o_move rfl ?_
  refine o_guard rfl rfl rfl rfl (fun _ => ?_) (fun h => absurd (h.symm.trans (decide_eq_false (fun h => h rfl))) (by decide))
  refine o_neq rfl rfl rfl ?_
  refine o_pickF rfl rfl (decide_eq_false (fun h => h rfl)) ?_
  refine o_move rfl ?_
  refine o_guard rfl rfl rfl rfl (fun _ => ?_) (fun h => absurd (h.symm.trans (decide_eq_false (fun h => h rfl))) (by decide))
  first | refine o_loadN rfl rfl rfl sh24 rfl ?_ | refine o_loadRN rfl rfl sh24 rfl ?_
  refine o_guard rfl rfl rfl rfl (fun _ => ?_) (fun h => absurd (h.symm.trans (decide_eq_false (fun h => h rfl))) (by decide))
  refine o_move rfl ?_
  refine o_guard rfl rfl rfl rfl (fun _ => ?_) (fun h => absurd (h.symm.trans (decide_eq_false (fun h => h rfl))) (by decide))
  refine o_call rfl (ret23 hi _ _ _ _) (.lrefl _) ?_
  refine o_guard rfl rfl rfl rfl (fun _ => ?_) (fun h => absurd (h.symm.trans (decide_eq_false (fun h => h rfl))) (by decide))
  refine o_not rfl rfl ?_
  refine o_pickF rfl rfl (decide_eq_false (fun h => h rfl)) ?_
  refine o_move rfl ?_
  refine o_guard rfl rfl rfl rfl (fun _ => ?_) (fun h => absurd (h.symm.trans g65) (by decide))
  first | refine o_loadN rfl rfl rfl sh24 rfl ?_ | refine o_loadRN rfl rfl sh24 rfl ?_
  refine o_guard rfl rfl rfl rfl (fun _ => ?_) (fun h => absurd (h.symm.trans g65) (by decide))
  refine o_move rfl ?_
  refine o_guard rfl rfl rfl rfl (fun _ => ?_) (fun h => absurd (h.symm.trans g65) (by decide))
  refine o_call rfl (ret23 hi _ _ _ _) (.lrefl _) ?_
  refine o_guard rfl rfl rfl rfl (fun _ => ?_) (fun h => absurd (h.symm.trans g65) (by decide))
  refine o_not rfl rfl ?_
  refine o_pickF rfl rfl g65 ?_
  refine o_move rfl ?_
  refine o_guard rfl rfl rfl rfl (fun _ => ?_) (fun h => absurd (h.symm.trans g71) (by decide))
  refine o_move rfl ?_
  refine o_guard rfl rfl rfl rfl (fun _ => ?_) (fun h => absurd (h.symm.trans g71) (by decide))
  refine o_gtr rfl rfl rfl ?_
  refine o_guard rfl rfl rfl rfl (fun _ => ?_) (fun h => absurd (h.symm.trans g71) (by decide))
  first | refine o_faddr rfl rfl fld24_0 ?_ | refine o_faddrR rfl rfl fld24_0 ?_
  refine o_guard rfl rfl rfl rfl (fun _ => ?_) (fun h => absurd (h.symm.trans g71) (by decide))
  first | refine o_load1 rfl rfl rfl sh3 rfl ?_ | refine o_loadR1 rfl rfl sh3 rfl ?_
  refine o_guard rfl rfl rfl rfl (fun _ => ?_) (fun h => absurd (h.symm.trans g71) (by decide))
  refine o_gtr rfl rfl rfl ?_
  refine o_guard rfl rfl rfl rfl (fun _ => ?_) (fun h => absurd (h.symm.trans g71) (by decide))
  refine o_neqB rfl ty4 rfl rfl ?_
  refine o_pickF rfl rfl g71 ?_
  refine o_nil ?_
  refine k_cond rfl (fun h => absurd (h.symm.trans g78) (by decide)) (fun _ => ?_)
  refine k_skip ?_
  refine k_gen [(2, .box 0 0), (5, .int .i64 (n0 % 151)), (6, .int .i64 (n1 % 151)), (7, .box 2 0), (8, .box 3 0), (9, .int .i64 0), (10, .box 4 0), (11, .box 5 0), (12, .int .i64 0), (13, .box 6 0), (14, .box 7 0), (15, .int .i64 0)] [.box [.lst .ro 3 (trisU b.lots), .int .i64 b.tlo, .int .i64 b.thi, .int .i64 b.thick, .int .i64 b.crack, .int .i64 b.glo, .int .i64 b.ghi, .lst .ro 2 (twosU b.thins), .int .i64 b.hot, .int .i64 b.least, .int .i64 b.clo, .int .i64 b.chi, .int .i64 b.coal, .lst .ro 3 (trisU b.looks)], .box [.int .i64 n0, .int .i64 n1], .box [.int .i64 (hat b (n0 % 151) b.clo), .int .i64 (hat b (n0 % 151) b.chi)], .box [.int .i64 ((hat b (n0 % 151) b.clo) * b.coal), .int .i64 ((hat b (n0 % 151) b.chi) * b.coal)], .box [.int .i64 (hat b (n1 % 151) b.clo), .int .i64 (hat b (n1 % 151) b.chi)], .box [.int .i64 ((hat b (n1 % 151) b.clo) * b.coal), .int .i64 ((hat b (n1 % 151) b.chi) * b.coal)], .box [.int .i64 (hat b (n0 % 151 + n1 % 151) b.clo), .int .i64 (hat b (n0 % 151 + n1 % 151) b.chi)], .box [.int .i64 ((hat b (n0 % 151 + n1 % 151) b.clo) * b.coal), .int .i64 ((hat b (n0 % 151 + n1 % 151) b.chi) * b.coal)]] (.cons rfl (.cons rfl (.cons rfl (.cons rfl (.cons rfl (.cons rfl (.cons rfl (.cons rfl (.cons rfl (.cons rfl (.cons rfl (.cons rfl (.nil rfl))))))))))))) rfl fun fr => ?_
  refine k_seq ?_
  refine k_seq ?_
  refine k_draw [.read true, .plain, .read true, .plain, .read true, .plain, .plain, .read true, .plain, .read true, .plain, .read false, .plain, .plain, .read true, .plain, .read true, .plain, .read true, .plain, .plain, .read true, .plain, .read true, .plain, .read false, .plain, .plain, .plain, .read true, .plain, .read true, .plain, .read true, .plain, .plain, .read true, .plain, .read true, .plain, .read false, .plain, .plain] (by kernel_rfl) (by kernel_rfl) (by kernel_rfl) ?_   -- region 9
  first | refine d_load rfl (o_loadN rfl rfl rfl sh24 rfl (o_nil rfl)) ?_ | refine d_load rfl (o_loadRN rfl rfl sh24 rfl (o_nil rfl)) ?_
  first | refine d_plain (o_faddr rfl rfl fld24_0 (o_nil rfl)) ?_ | refine d_plain (o_faddrR rfl rfl fld24_0 (o_nil rfl)) ?_
  first | refine d_load rfl (o_load1 rfl rfl rfl sh3 rfl (o_nil rfl)) ?_ | refine d_load rfl (o_loadR1 rfl rfl sh3 rfl (o_nil rfl)) ?_
  first | refine d_plain (o_faddr rfl rfl fld28_9 (o_nil rfl)) ?_ | refine d_plain (o_faddrR rfl rfl fld28_9 (o_nil rfl)) ?_
  first | refine d_load rfl (o_load1 rfl rfl rfl sh3 rfl (o_nil rfl)) ?_ | refine d_load rfl (o_loadR1 rfl rfl sh3 rfl (o_nil rfl)) ?_
  refine d_plain (o_mul rfl rfl rfl (mul64 c2 (by omega)) (o_nil rfl)) ?_
  first | refine d_plain (o_faddr rfl rfl fld24_1 (o_nil rfl)) ?_ | refine d_plain (o_faddrR rfl rfl fld24_1 (o_nil rfl)) ?_
  first | refine d_load rfl (o_load1 rfl rfl rfl sh3 rfl (o_nil rfl)) ?_ | refine d_load rfl (o_loadR1 rfl rfl sh3 rfl (o_nil rfl)) ?_
  first | refine d_plain (o_faddr rfl rfl fld28_9 (o_nil rfl)) ?_ | refine d_plain (o_faddrR rfl rfl fld28_9 (o_nil rfl)) ?_
  first | refine d_load rfl (o_load1 rfl rfl rfl sh3 rfl (o_nil rfl)) ?_ | refine d_load rfl (o_loadR1 rfl rfl sh3 rfl (o_nil rfl)) ?_
  refine d_plain (o_mul rfl rfl rfl (mul64 c2 (by omega)) (o_nil rfl)) ?_
  refine d_callR rfl (ret12 hi ((hat b (n0 % 151) b.clo) * b.coal) ((hat b (n0 % 151) b.chi) * b.coal)) (flat_span _ _) (.lrefl _) ?_
  refine d_plain (o_binK rfl rfl rfl rfl rfl (span_neq _ _) (o_nil rfl)) ?_
  refine d_plain (o_move rfl (o_nil rfl)) ?_
  refine d_guard rfl rfl rfl rfl (fun _ => ?_) (fun h => absurd (h.symm.trans rfl) (by decide))
  first | refine d_load rfl (o_loadN rfl rfl rfl sh24 rfl (o_nil rfl)) ?_ | refine d_load rfl (o_loadRN rfl rfl sh24 rfl (o_nil rfl)) ?_
  refine d_guard rfl rfl rfl rfl (fun _ => ?_) (fun h => absurd (h.symm.trans rfl) (by decide))
  first | refine d_plain (o_faddr rfl rfl fld24_0 (o_nil rfl)) ?_ | refine d_plain (o_faddrR rfl rfl fld24_0 (o_nil rfl)) ?_
  refine d_guard rfl rfl rfl rfl (fun _ => ?_) (fun h => absurd (h.symm.trans rfl) (by decide))
  first | refine d_load rfl (o_load1 rfl rfl rfl sh3 rfl (o_nil rfl)) ?_ | refine d_load rfl (o_loadR1 rfl rfl sh3 rfl (o_nil rfl)) ?_
  refine d_guard rfl rfl rfl rfl (fun _ => ?_) (fun h => absurd (h.symm.trans rfl) (by decide))
  first | refine d_plain (o_faddr rfl rfl fld28_9 (o_nil rfl)) ?_ | refine d_plain (o_faddrR rfl rfl fld28_9 (o_nil rfl)) ?_
  refine d_guard rfl rfl rfl rfl (fun _ => ?_) (fun h => absurd (h.symm.trans rfl) (by decide))
  first | refine d_load rfl (o_load1 rfl rfl rfl sh3 rfl (o_nil rfl)) ?_ | refine d_load rfl (o_loadR1 rfl rfl sh3 rfl (o_nil rfl)) ?_
  refine d_guard rfl rfl rfl rfl (fun _ => ?_) (fun h => absurd (h.symm.trans rfl) (by decide))
  refine d_plain (o_mul rfl rfl rfl (mul64 c2 (by omega)) (o_nil rfl)) ?_
  refine d_guard rfl rfl rfl rfl (fun _ => ?_) (fun h => absurd (h.symm.trans rfl) (by decide))
  first | refine d_plain (o_faddr rfl rfl fld24_1 (o_nil rfl)) ?_ | refine d_plain (o_faddrR rfl rfl fld24_1 (o_nil rfl)) ?_
  refine d_guard rfl rfl rfl rfl (fun _ => ?_) (fun h => absurd (h.symm.trans rfl) (by decide))
  first | refine d_load rfl (o_load1 rfl rfl rfl sh3 rfl (o_nil rfl)) ?_ | refine d_load rfl (o_loadR1 rfl rfl sh3 rfl (o_nil rfl)) ?_
  refine d_guard rfl rfl rfl rfl (fun _ => ?_) (fun h => absurd (h.symm.trans rfl) (by decide))
  first | refine d_plain (o_faddr rfl rfl fld28_9 (o_nil rfl)) ?_ | refine d_plain (o_faddrR rfl rfl fld28_9 (o_nil rfl)) ?_
  refine d_guard rfl rfl rfl rfl (fun _ => ?_) (fun h => absurd (h.symm.trans rfl) (by decide))
  first | refine d_load rfl (o_load1 rfl rfl rfl sh3 rfl (o_nil rfl)) ?_ | refine d_load rfl (o_loadR1 rfl rfl sh3 rfl (o_nil rfl)) ?_
  refine d_guard rfl rfl rfl rfl (fun _ => ?_) (fun h => absurd (h.symm.trans rfl) (by decide))
  refine d_plain (o_mul rfl rfl rfl (mul64 c2 (by omega)) (o_nil rfl)) ?_
  refine d_guard rfl rfl rfl rfl (fun _ => ?_) (fun h => absurd (h.symm.trans rfl) (by decide))
  refine d_callR rfl (ret12 hi ((hat b (n1 % 151) b.clo) * b.coal) ((hat b (n1 % 151) b.chi) * b.coal)) (flat_span _ _) (.lrefl _) ?_
  refine d_guard rfl rfl rfl rfl (fun _ => ?_) (fun h => absurd (h.symm.trans rfl) (by decide))
  refine d_plain (o_binK rfl rfl rfl rfl rfl (span_neq _ _) (o_nil rfl)) ?_
  refine d_plain (o_pickF rfl rfl rfl (o_nil rfl)) ?_
  refine d_plain (o_move rfl (o_nil rfl)) ?_
  refine d_guard rfl rfl rfl rfl (fun _ => ?_) (fun h => absurd (h.symm.trans rfl) (by decide))
  first | refine d_load rfl (o_loadN rfl rfl rfl sh24 rfl (o_nil rfl)) ?_ | refine d_load rfl (o_loadRN rfl rfl sh24 rfl (o_nil rfl)) ?_
  refine d_guard rfl rfl rfl rfl (fun _ => ?_) (fun h => absurd (h.symm.trans rfl) (by decide))
  first | refine d_plain (o_faddr rfl rfl fld24_0 (o_nil rfl)) ?_ | refine d_plain (o_faddrR rfl rfl fld24_0 (o_nil rfl)) ?_
  refine d_guard rfl rfl rfl rfl (fun _ => ?_) (fun h => absurd (h.symm.trans rfl) (by decide))
  first | refine d_load rfl (o_load1 rfl rfl rfl sh3 rfl (o_nil rfl)) ?_ | refine d_load rfl (o_loadR1 rfl rfl sh3 rfl (o_nil rfl)) ?_
  refine d_guard rfl rfl rfl rfl (fun _ => ?_) (fun h => absurd (h.symm.trans rfl) (by decide))
  first | refine d_plain (o_faddr rfl rfl fld28_9 (o_nil rfl)) ?_ | refine d_plain (o_faddrR rfl rfl fld28_9 (o_nil rfl)) ?_
  refine d_guard rfl rfl rfl rfl (fun _ => ?_) (fun h => absurd (h.symm.trans rfl) (by decide))
  first | refine d_load rfl (o_load1 rfl rfl rfl sh3 rfl (o_nil rfl)) ?_ | refine d_load rfl (o_loadR1 rfl rfl sh3 rfl (o_nil rfl)) ?_
  refine d_guard rfl rfl rfl rfl (fun _ => ?_) (fun h => absurd (h.symm.trans rfl) (by decide))
  refine d_plain (o_mul rfl rfl rfl (mul64 c2 (by omega)) (o_nil rfl)) ?_
  refine d_guard rfl rfl rfl rfl (fun _ => ?_) (fun h => absurd (h.symm.trans rfl) (by decide))
  first | refine d_plain (o_faddr rfl rfl fld24_1 (o_nil rfl)) ?_ | refine d_plain (o_faddrR rfl rfl fld24_1 (o_nil rfl)) ?_
  refine d_guard rfl rfl rfl rfl (fun _ => ?_) (fun h => absurd (h.symm.trans rfl) (by decide))
  first | refine d_load rfl (o_load1 rfl rfl rfl sh3 rfl (o_nil rfl)) ?_ | refine d_load rfl (o_loadR1 rfl rfl sh3 rfl (o_nil rfl)) ?_
  refine d_guard rfl rfl rfl rfl (fun _ => ?_) (fun h => absurd (h.symm.trans rfl) (by decide))
  first | refine d_plain (o_faddr rfl rfl fld28_9 (o_nil rfl)) ?_ | refine d_plain (o_faddrR rfl rfl fld28_9 (o_nil rfl)) ?_
  refine d_guard rfl rfl rfl rfl (fun _ => ?_) (fun h => absurd (h.symm.trans rfl) (by decide))
  first | refine d_load rfl (o_load1 rfl rfl rfl sh3 rfl (o_nil rfl)) ?_ | refine d_load rfl (o_loadR1 rfl rfl sh3 rfl (o_nil rfl)) ?_
  refine d_guard rfl rfl rfl rfl (fun _ => ?_) (fun h => absurd (h.symm.trans rfl) (by decide))
  refine d_plain (o_mul rfl rfl rfl (mul64 c2 (by omega)) (o_nil rfl)) ?_
  refine d_guard rfl rfl rfl rfl (fun _ => ?_) (fun h => absurd (h.symm.trans rfl) (by decide))
  refine d_callR rfl (ret12 hi ((hat b (n0 % 151 + n1 % 151) b.clo) * b.coal) ((hat b (n0 % 151 + n1 % 151) b.chi) * b.coal)) (flat_span _ _) (.lrefl _) ?_
  refine d_guard rfl rfl rfl rfl (fun _ => ?_) (fun h => absurd (h.symm.trans rfl) (by decide))
  refine d_plain (o_binK rfl rfl rfl rfl rfl (span_neq _ _) (o_nil rfl)) ?_
  refine d_plain (o_pickF rfl rfl rfl (o_nil rfl)) ?_
  refine d_nil ?_
  refine k_cond rfl (fun h => absurd (h.symm.trans rfl) (by decide)) (fun _ => ?_)
  refine k_skip ?_
  refine k_gen [(2, .box 0 0), (5, .int .i64 (n0 % 151)), (6, .int .i64 (n1 % 151)), (7, .box 2 0), (8, .box 3 0), (9, .int .i64 0), (10, .box 4 0), (11, .box 5 0), (12, .int .i64 0), (13, .box 6 0), (14, .box 7 0), (15, .int .i64 0)] [.box [.lst .ro 3 (trisU b.lots), .int .i64 b.tlo, .int .i64 b.thi, .int .i64 b.thick, .int .i64 b.crack, .int .i64 b.glo, .int .i64 b.ghi, .lst .ro 2 (twosU b.thins), .int .i64 b.hot, .int .i64 b.least, .int .i64 b.clo, .int .i64 b.chi, .int .i64 b.coal, .lst .ro 3 (trisU b.looks)], .box [.int .i64 n0, .int .i64 n1], .box [.int .i64 (hat b (n0 % 151) b.clo), .int .i64 (hat b (n0 % 151) b.chi)], .box [.int .i64 ((hat b (n0 % 151) b.clo) * b.coal), .int .i64 ((hat b (n0 % 151) b.chi) * b.coal)], .box [.int .i64 (hat b (n1 % 151) b.clo), .int .i64 (hat b (n1 % 151) b.chi)], .box [.int .i64 ((hat b (n1 % 151) b.clo) * b.coal), .int .i64 ((hat b (n1 % 151) b.chi) * b.coal)], .box [.int .i64 (hat b (n0 % 151 + n1 % 151) b.clo), .int .i64 (hat b (n0 % 151 + n1 % 151) b.chi)], .box [.int .i64 ((hat b (n0 % 151 + n1 % 151) b.clo) * b.coal), .int .i64 ((hat b (n0 % 151 + n1 % 151) b.chi) * b.coal)]] (.cons rfl (.cons rfl (.cons rfl (.cons rfl (.cons rfl (.cons rfl (.cons rfl (.cons rfl (.cons rfl (.cons rfl (.cons rfl (.cons rfl (.nil rfl))))))))))))) rfl fun fr => ?_
  refine k_seq ?_
  refine k_seq ?_
  refine k_draw [.plain, .plain, .plain, .plain, .plain, .read true, .plain, .plain, .read true, .plain, .plain, .plain, .read true, .plain, .plain, .plain, .plain, .read true, .plain, .read true, .plain, .plain, .plain] (by kernel_rfl) (by kernel_rfl) (by kernel_rfl) ?_   -- region 11
  refine d_plain (o_move rfl (o_nil rfl)) ?_
  refine d_plain (o_gtr rfl rfl rfl (o_nil rfl)) ?_
  refine d_plain (o_move rfl (o_nil rfl)) ?_
  refine d_guard rfl rfl rfl rfl (fun h1 => ?_) (fun h1 => ?_)   -- slot 124
  · have hh := hat_hot hk (of_decide_eq_true h1)
    have hp := hat_pos hk d1 (of_decide_eq_true h1)
    rw [← Int.tdiv_eq_ediv_of_nonneg (show 0 ≤ n0 % 151 + hat b (n0 % 151) b.clo - 1 by omega)] at hh
    obtain ⟨hh1, hh2, hh3⟩ := hh
    have h9 := Int.mul_nonneg (show 0 ≤ b.clo by omega) hh1
    have g143 : decide (b.hot - b.least < b.clo * (((n0 % 151 + hat b (n0 % 151) b.clo - 1).tdiv (hat b (n0 % 151) b.clo)) - 1)) = false := decide_eq_false (by omega)
    first | refine d_plain (o_faddr rfl rfl fld28_8 (o_nil rfl)) ?_ | refine d_plain (o_faddrR rfl rfl fld28_8 (o_nil rfl)) ?_
    refine d_guard rfl rfl rfl rfl (fun _ => ?_) (fun h => by rw [h1] at h; cases h)
    first | refine d_plain (o_faddr rfl rfl fld24_0 (o_nil rfl)) ?_ | refine d_plain (o_faddrR rfl rfl fld24_0 (o_nil rfl)) ?_
    refine d_guard rfl rfl rfl rfl (fun _ => ?_) (fun h => by rw [h1] at h; cases h)
    first | refine d_load rfl (o_load1 rfl rfl rfl sh3 rfl (o_nil rfl)) ?_ | refine d_load rfl (o_loadR1 rfl rfl sh3 rfl (o_nil rfl)) ?_
    refine d_guard rfl rfl rfl rfl (fun _ => ?_) (fun h => by rw [h1] at h; cases h)
    refine d_plain (o_move rfl (o_nil rfl)) ?_
    refine d_guard rfl rfl rfl rfl (fun _ => ?_) (fun h => by rw [h1] at h; cases h)
    first | refine d_plain (o_faddr rfl rfl fld24_0 (o_nil rfl)) ?_ | refine d_plain (o_faddrR rfl rfl fld24_0 (o_nil rfl)) ?_
    refine d_guard rfl rfl rfl rfl (fun _ => ?_) (fun h => by rw [h1] at h; cases h)
    first | refine d_load rfl (o_load1 rfl rfl rfl sh3 rfl (o_nil rfl)) ?_ | refine d_load rfl (o_loadR1 rfl rfl sh3 rfl (o_nil rfl)) ?_
    refine d_guard rfl rfl rfl rfl (fun _ => ?_) (fun h => by rw [h1] at h; cases h)
    refine d_plain (o_add rfl rfl rfl (by unfold I64; omega) (o_nil rfl)) ?_
    refine d_guard rfl rfl rfl rfl (fun _ => ?_) (fun h => by rw [h1] at h; cases h)
    refine d_plain (o_sub rfl rfl rfl (by unfold I64; omega) (o_nil rfl)) ?_
    refine d_guard rfl rfl rfl rfl (fun _ => ?_) (fun h => by rw [h1] at h; cases h)
    first | refine d_plain (o_faddr rfl rfl fld24_0 (o_nil rfl)) ?_ | refine d_plain (o_faddrR rfl rfl fld24_0 (o_nil rfl)) ?_
    refine d_guard rfl rfl rfl rfl (fun _ => ?_) (fun h => by rw [h1] at h; cases h)
    first | refine d_load rfl (o_load1 rfl rfl rfl sh3 rfl (o_nil rfl)) ?_ | refine d_load rfl (o_loadR1 rfl rfl sh3 rfl (o_nil rfl)) ?_
    refine d_guard rfl rfl rfl rfl (fun _ => ?_) (fun h => by rw [h1] at h; cases h)
    refine d_plain (o_quo rfl rfl rfl (by omega) (by unfold I64; omega) (o_nil rfl)) ?_
    refine d_guard rfl rfl rfl rfl (fun _ => ?_) (fun h => by rw [h1] at h; cases h)
    refine d_plain (o_sub rfl rfl rfl (by unfold I64; omega) (o_nil rfl)) ?_
    refine d_guard rfl rfl rfl rfl (fun _ => ?_) (fun h => by rw [h1] at h; cases h)
    refine d_plain (o_mul rfl rfl rfl (by unfold I64; omega) (o_nil rfl)) ?_
    refine d_guard rfl rfl rfl rfl (fun _ => ?_) (fun h => by rw [h1] at h; cases h)
    first | refine d_plain (o_faddr rfl rfl fld28_6 (o_nil rfl)) ?_ | refine d_plain (o_faddrR rfl rfl fld28_6 (o_nil rfl)) ?_
    refine d_guard rfl rfl rfl rfl (fun _ => ?_) (fun h => by rw [h1] at h; cases h)
    first | refine d_load rfl (o_load1 rfl rfl rfl sh3 rfl (o_nil rfl)) ?_ | refine d_load rfl (o_loadR1 rfl rfl sh3 rfl (o_nil rfl)) ?_
    refine d_guard rfl rfl rfl rfl (fun _ => ?_) (fun h => by rw [h1] at h; cases h)
    first | refine d_plain (o_faddr rfl rfl fld28_7 (o_nil rfl)) ?_ | refine d_plain (o_faddrR rfl rfl fld28_7 (o_nil rfl)) ?_
    refine d_guard rfl rfl rfl rfl (fun _ => ?_) (fun h => by rw [h1] at h; cases h)
    first | refine d_load rfl (o_load1 rfl rfl rfl sh3 rfl (o_nil rfl)) ?_ | refine d_load rfl (o_loadR1 rfl rfl sh3 rfl (o_nil rfl)) ?_
    refine d_guard rfl rfl rfl rfl (fun _ => ?_) (fun h => by rw [h1] at h; cases h)
    refine d_plain (o_sub rfl rfl rfl (by unfold I64; omega) (o_nil rfl)) ?_
    refine d_guard rfl rfl rfl rfl (fun _ => ?_) (fun h => by rw [h1] at h; cases h)
    refine d_plain (o_gtr rfl rfl rfl (o_nil rfl)) ?_
    refine d_plain (o_pickT rfl rfl h1 (o_nil rfl)) ?_
    refine d_nil ?_
    refine k_cond rfl (fun h => absurd (h.symm.trans g143) (by decide)) (fun _ => ?_)
    refine k_skip ?_
    refine k_gen [(2, .box 0 0), (5, .int .i64 (n0 % 151)), (6, .int .i64 (n1 % 151)), (7, .box 2 0), (8, .box 3 0), (9, .int .i64 0), (10, .box 4 0), (11, .box 5 0), (12, .int .i64 0), (13, .box 6 0), (14, .box 7 0), (15, .int .i64 0)] [.box [.lst .ro 3 (trisU b.lots), .int .i64 b.tlo, .int .i64 b.thi, .int .i64 b.thick, .int .i64 b.crack, .int .i64 b.glo, .int .i64 b.ghi, .lst .ro 2 (twosU b.thins), .int .i64 b.hot, .int .i64 b.least, .int .i64 b.clo, .int .i64 b.chi, .int .i64 b.coal, .lst .ro 3 (trisU b.looks)], .box [.int .i64 n0, .int .i64 n1], .box [.int .i64 (hat b (n0 % 151) b.clo), .int .i64 (hat b (n0 % 151) b.chi)], .box [.int .i64 ((hat b (n0 % 151) b.clo) * b.coal), .int .i64 ((hat b (n0 % 151) b.chi) * b.coal)], .box [.int .i64 (hat b (n1 % 151) b.clo), .int .i64 (hat b (n1 % 151) b.chi)], .box [.int .i64 ((hat b (n1 % 151) b.clo) * b.coal), .int .i64 ((hat b (n1 % 151) b.chi) * b.coal)], .box [.int .i64 (hat b (n0 % 151 + n1 % 151) b.clo), .int .i64 (hat b (n0 % 151 + n1 % 151) b.chi)], .box [.int .i64 ((hat b (n0 % 151 + n1 % 151) b.clo) * b.coal), .int .i64 ((hat b (n0 % 151 + n1 % 151) b.chi) * b.coal)]] (.cons rfl (.cons rfl (.cons rfl (.cons rfl (.cons rfl (.cons rfl (.cons rfl (.cons rfl (.cons rfl (.cons rfl (.cons rfl (.cons rfl (.nil rfl))))))))))))) rfl fun fr => ?_
    refine k_seq ?_
    refine k_region ?_   -- region 13 outright.go:463
    first | refine o_faddr rfl rfl fld24_0 ?_ | refine o_faddrR rfl rfl fld24_0 ?_
    first | refine o_load1 rfl rfl rfl sh3 rfl ?_ | refine o_loadR1 rfl rfl sh3 rfl ?_
    first | refine o_faddr rfl rfl fld24_0 ?_ | refine o_faddrR rfl rfl fld24_0 ?_
    first | refine o_load1 rfl rfl rfl sh3 rfl ?_ | refine o_loadR1 rfl rfl sh3 rfl ?_
    first | refine o_faddr rfl rfl fld24_0 ?_ | refine o_faddrR rfl rfl fld24_0 ?_
    first | refine o_load1 rfl rfl rfl sh3 rfl ?_ | refine o_loadR1 rfl rfl sh3 rfl ?_
    refine o_max rfl rfl rfl ?_
    refine o_geq rfl rfl rfl ?_
    refine o_move rfl ?_
    refine o_guard rfl rfl rfl rfl (fun _ => ?_) (fun h => absurd (h.symm.trans g153) (by decide))
    first | refine o_faddr rfl rfl fld24_1 ?_ | refine o_faddrR rfl rfl fld24_1 ?_
    refine o_guard rfl rfl rfl rfl (fun _ => ?_) (fun h => absurd (h.symm.trans g153) (by decide))
    first | refine o_load1 rfl rfl rfl sh3 rfl ?_ | refine o_loadR1 rfl rfl sh3 rfl ?_
    refine o_guard rfl rfl rfl rfl (fun _ => ?_) (fun h => absurd (h.symm.trans g153) (by decide))
    first | refine o_faddr rfl rfl fld24_1 ?_ | refine o_faddrR rfl rfl fld24_1 ?_
    refine o_guard rfl rfl rfl rfl (fun _ => ?_) (fun h => absurd (h.symm.trans g153) (by decide))
    first | refine o_load1 rfl rfl rfl sh3 rfl ?_ | refine o_loadR1 rfl rfl sh3 rfl ?_
    refine o_guard rfl rfl rfl rfl (fun _ => ?_) (fun h => absurd (h.symm.trans g153) (by decide))
    first | refine o_faddr rfl rfl fld24_1 ?_ | refine o_faddrR rfl rfl fld24_1 ?_
    refine o_guard rfl rfl rfl rfl (fun _ => ?_) (fun h => absurd (h.symm.trans g153) (by decide))
    first | refine o_load1 rfl rfl rfl sh3 rfl ?_ | refine o_loadR1 rfl rfl sh3 rfl ?_
    refine o_guard rfl rfl rfl rfl (fun _ => ?_) (fun h => absurd (h.symm.trans g153) (by decide))
    refine o_max rfl rfl rfl ?_
    refine o_guard rfl rfl rfl rfl (fun _ => ?_) (fun h => absurd (h.symm.trans g153) (by decide))
    refine o_geq rfl rfl rfl ?_
    refine o_pickT rfl rfl g153 ?_
    refine o_move rfl ?_
    refine o_guard rfl rfl rfl rfl (fun _ => ?_) (fun h => absurd (h.symm.trans g163) (by decide))
    first | refine o_faddr rfl rfl fld24_0 ?_ | refine o_faddrR rfl rfl fld24_0 ?_
    refine o_guard rfl rfl rfl rfl (fun _ => ?_) (fun h => absurd (h.symm.trans g163) (by decide))
    first | refine o_load1 rfl rfl rfl sh3 rfl ?_ | refine o_loadR1 rfl rfl sh3 rfl ?_
    refine o_guard rfl rfl rfl rfl (fun _ => ?_) (fun h => absurd (h.symm.trans g163) (by decide))
    first | refine o_faddr rfl rfl fld24_0 ?_ | refine o_faddrR rfl rfl fld24_0 ?_
    refine o_guard rfl rfl rfl rfl (fun _ => ?_) (fun h => absurd (h.symm.trans g163) (by decide))
    first | refine o_load1 rfl rfl rfl sh3 rfl ?_ | refine o_loadR1 rfl rfl sh3 rfl ?_
    refine o_guard rfl rfl rfl rfl (fun _ => ?_) (fun h => absurd (h.symm.trans g163) (by decide))
    first | refine o_faddr rfl rfl fld24_0 ?_ | refine o_faddrR rfl rfl fld24_0 ?_
    refine o_guard rfl rfl rfl rfl (fun _ => ?_) (fun h => absurd (h.symm.trans g163) (by decide))
    first | refine o_load1 rfl rfl rfl sh3 rfl ?_ | refine o_loadR1 rfl rfl sh3 rfl ?_
    refine o_guard rfl rfl rfl rfl (fun _ => ?_) (fun h => absurd (h.symm.trans g163) (by decide))
    refine o_add rfl rfl rfl (by unfold I64; omega) ?_
    refine o_guard rfl rfl rfl rfl (fun _ => ?_) (fun h => absurd (h.symm.trans g163) (by decide))
    refine o_leq rfl rfl rfl ?_
    refine o_pickT rfl rfl g163 ?_
    refine o_move rfl ?_
    refine o_guard rfl rfl rfl rfl (fun _ => ?_) (fun h => absurd (h.symm.trans g173) (by decide))
    first | refine o_faddr rfl rfl fld24_1 ?_ | refine o_faddrR rfl rfl fld24_1 ?_
    refine o_guard rfl rfl rfl rfl (fun _ => ?_) (fun h => absurd (h.symm.trans g173) (by decide))
    first | refine o_load1 rfl rfl rfl sh3 rfl ?_ | refine o_loadR1 rfl rfl sh3 rfl ?_
    refine o_guard rfl rfl rfl rfl (fun _ => ?_) (fun h => absurd (h.symm.trans g173) (by decide))
    first | refine o_faddr rfl rfl fld24_1 ?_ | refine o_faddrR rfl rfl fld24_1 ?_
    refine o_guard rfl rfl rfl rfl (fun _ => ?_) (fun h => absurd (h.symm.trans g173) (by decide))
    first | refine o_load1 rfl rfl rfl sh3 rfl ?_ | refine o_loadR1 rfl rfl sh3 rfl ?_
    refine o_guard rfl rfl rfl rfl (fun _ => ?_) (fun h => absurd (h.symm.trans g173) (by decide))
    first | refine o_faddr rfl rfl fld24_1 ?_ | refine o_faddrR rfl rfl fld24_1 ?_
    refine o_guard rfl rfl rfl rfl (fun _ => ?_) (fun h => absurd (h.symm.trans g173) (by decide))
    first | refine o_load1 rfl rfl rfl sh3 rfl ?_ | refine o_loadR1 rfl rfl sh3 rfl ?_
    refine o_guard rfl rfl rfl rfl (fun _ => ?_) (fun h => absurd (h.symm.trans g173) (by decide))
    refine o_add rfl rfl rfl (by unfold I64; omega) ?_
    refine o_guard rfl rfl rfl rfl (fun _ => ?_) (fun h => absurd (h.symm.trans g173) (by decide))
    refine o_leq rfl rfl rfl ?_
    refine o_pickT rfl rfl g173 ?_
    refine o_move rfl ?_
    refine o_guard rfl rfl rfl rfl (fun _ => ?_) (fun h => absurd (h.symm.trans g183) (by decide))
    refine o_call rfl (r8) (.lrefl _) ?_
    refine o_pickT rfl rfl g183 ?_
    refine o_assign rfl ?_
    refine o_nil ?_
    refine k_ret ?_
    refine ⟨.inr rfl, _, .cons _ _ _ _ (.tmp 4) .nil, ?_⟩
    exact .refl _
  · refine d_guard rfl rfl rfl rfl (fun h => by rw [h1] at h; cases h) (fun _ => ?_)
    refine d_guard rfl rfl rfl rfl (fun h => by rw [h1] at h; cases h) (fun _ => ?_)
    refine d_guard rfl rfl rfl rfl (fun h => by rw [h1] at h; cases h) (fun _ => ?_)
    refine d_guard rfl rfl rfl rfl (fun h => by rw [h1] at h; cases h) (fun _ => ?_)
    refine d_guard rfl rfl rfl rfl (fun h => by rw [h1] at h; cases h) (fun _ => ?_)
    refine d_guard rfl rfl rfl rfl (fun h => by rw [h1] at h; cases h) (fun _ => ?_)
    refine d_guard rfl rfl rfl rfl (fun h => by rw [h1] at h; cases h) (fun _ => ?_)
    refine d_guard rfl rfl rfl rfl (fun h => by rw [h1] at h; cases h) (fun _ => ?_)
    refine d_guard rfl rfl rfl rfl (fun h => by rw [h1] at h; cases h) (fun _ => ?_)
    refine d_guard rfl rfl rfl rfl (fun h => by rw [h1] at h; cases h) (fun _ => ?_)
    refine d_guard rfl rfl rfl rfl (fun h => by rw [h1] at h; cases h) (fun _ => ?_)
    refine d_guard rfl rfl rfl rfl (fun h => by rw [h1] at h; cases h) (fun _ => ?_)
    refine d_guard rfl rfl rfl rfl (fun h => by rw [h1] at h; cases h) (fun _ => ?_)
    refine d_guard rfl rfl rfl rfl (fun h => by rw [h1] at h; cases h) (fun _ => ?_)
    refine d_guard rfl rfl rfl rfl (fun h => by rw [h1] at h; cases h) (fun _ => ?_)
    refine d_guard rfl rfl rfl rfl (fun h => by rw [h1] at h; cases h) (fun _ => ?_)
    refine d_guard rfl rfl rfl rfl (fun h => by rw [h1] at h; cases h) (fun _ => ?_)
    refine d_guard rfl rfl rfl rfl (fun h => by rw [h1] at h; cases h) (fun _ => ?_)
    refine d_plain (o_pickF rfl rfl h1 (o_nil rfl)) ?_
    refine d_nil ?_
    refine k_cond rfl (fun h => by cases h) (fun _ => ?_)
    refine k_skip ?_
    refine k_gen [(2, .box 0 0), (5, .int .i64 (n0 % 151)), (6, .int .i64 (n1 % 151)), (7, .box 2 0), (8, .box 3 0), (9, .int .i64 0), (10, .box 4 0), (11, .box 5 0), (12, .int .i64 0), (13, .box 6 0), (14, .box 7 0), (15, .int .i64 0)] [.box [.lst .ro 3 (trisU b.lots), .int .i64 b.tlo, .int .i64 b.thi, .int .i64 b.thick, .int .i64 b.crack, .int .i64 b.glo, .int .i64 b.ghi, .lst .ro 2 (twosU b.thins), .int .i64 b.hot, .int .i64 b.least, .int .i64 b.clo, .int .i64 b.chi, .int .i64 b.coal, .lst .ro 3 (trisU b.looks)], .box [.int .i64 n0, .int .i64 n1], .box [.int .i64 (hat b (n0 % 151) b.clo), .int .i64 (hat b (n0 % 151) b.chi)], .box [.int .i64 ((hat b (n0 % 151) b.clo) * b.coal), .int .i64 ((hat b (n0 % 151) b.chi) * b.coal)], .box [.int .i64 (hat b (n1 % 151) b.clo), .int .i64 (hat b (n1 % 151) b.chi)], .box [.int .i64 ((hat b (n1 % 151) b.clo) * b.coal), .int .i64 ((hat b (n1 % 151) b.chi) * b.coal)], .box [.int .i64 (hat b (n0 % 151 + n1 % 151) b.clo), .int .i64 (hat b (n0 % 151 + n1 % 151) b.chi)], .box [.int .i64 ((hat b (n0 % 151 + n1 % 151) b.clo) * b.coal), .int .i64 ((hat b (n0 % 151 + n1 % 151) b.chi) * b.coal)]] (.cons rfl (.cons rfl (.cons rfl (.cons rfl (.cons rfl (.cons rfl (.cons rfl (.cons rfl (.cons rfl (.cons rfl (.cons rfl (.cons rfl (.nil rfl))))))))))))) rfl fun fr => ?_
    refine k_seq ?_
    refine k_region ?_   -- region 13 outright.go:463
    first | refine o_faddr rfl rfl fld24_0 ?_ | refine o_faddrR rfl rfl fld24_0 ?_
    first | refine o_load1 rfl rfl rfl sh3 rfl ?_ | refine o_loadR1 rfl rfl sh3 rfl ?_
    first | refine o_faddr rfl rfl fld24_0 ?_ | refine o_faddrR rfl rfl fld24_0 ?_
    first | refine o_load1 rfl rfl rfl sh3 rfl ?_ | refine o_loadR1 rfl rfl sh3 rfl ?_
    first | refine o_faddr rfl rfl fld24_0 ?_ | refine o_faddrR rfl rfl fld24_0 ?_
    first | refine o_load1 rfl rfl rfl sh3 rfl ?_ | refine o_loadR1 rfl rfl sh3 rfl ?_
    refine o_max rfl rfl rfl ?_
    refine o_geq rfl rfl rfl ?_
    refine o_move rfl ?_
    refine o_guard rfl rfl rfl rfl (fun _ => ?_) (fun h => absurd (h.symm.trans g153) (by decide))
    first | refine o_faddr rfl rfl fld24_1 ?_ | refine o_faddrR rfl rfl fld24_1 ?_
    refine o_guard rfl rfl rfl rfl (fun _ => ?_) (fun h => absurd (h.symm.trans g153) (by decide))
    first | refine o_load1 rfl rfl rfl sh3 rfl ?_ | refine o_loadR1 rfl rfl sh3 rfl ?_
    refine o_guard rfl rfl rfl rfl (fun _ => ?_) (fun h => absurd (h.symm.trans g153) (by decide))
    first | refine o_faddr rfl rfl fld24_1 ?_ | refine o_faddrR rfl rfl fld24_1 ?_
    refine o_guard rfl rfl rfl rfl (fun _ => ?_) (fun h => absurd (h.symm.trans g153) (by decide))
    first | refine o_load1 rfl rfl rfl sh3 rfl ?_ | refine o_loadR1 rfl rfl sh3 rfl ?_
    refine o_guard rfl rfl rfl rfl (fun _ => ?_) (fun h => absurd (h.symm.trans g153) (by decide))
    first | refine o_faddr rfl rfl fld24_1 ?_ | refine o_faddrR rfl rfl fld24_1 ?_
    refine o_guard rfl rfl rfl rfl (fun _ => ?_) (fun h => absurd (h.symm.trans g153) (by decide))
    first | refine o_load1 rfl rfl rfl sh3 rfl ?_ | refine o_loadR1 rfl rfl sh3 rfl ?_
    refine o_guard rfl rfl rfl rfl (fun _ => ?_) (fun h => absurd (h.symm.trans g153) (by decide))
    refine o_max rfl rfl rfl ?_
    refine o_guard rfl rfl rfl rfl (fun _ => ?_) (fun h => absurd (h.symm.trans g153) (by decide))
    refine o_geq rfl rfl rfl ?_
    refine o_pickT rfl rfl g153 ?_
    refine o_move rfl ?_
    refine o_guard rfl rfl rfl rfl (fun _ => ?_) (fun h => absurd (h.symm.trans g163) (by decide))
    first | refine o_faddr rfl rfl fld24_0 ?_ | refine o_faddrR rfl rfl fld24_0 ?_
    refine o_guard rfl rfl rfl rfl (fun _ => ?_) (fun h => absurd (h.symm.trans g163) (by decide))
    first | refine o_load1 rfl rfl rfl sh3 rfl ?_ | refine o_loadR1 rfl rfl sh3 rfl ?_
    refine o_guard rfl rfl rfl rfl (fun _ => ?_) (fun h => absurd (h.symm.trans g163) (by decide))
    first | refine o_faddr rfl rfl fld24_0 ?_ | refine o_faddrR rfl rfl fld24_0 ?_
    refine o_guard rfl rfl rfl rfl (fun _ => ?_) (fun h => absurd (h.symm.trans g163) (by decide))
    first | refine o_load1 rfl rfl rfl sh3 rfl ?_ | refine o_loadR1 rfl rfl sh3 rfl ?_
    refine o_guard rfl rfl rfl rfl (fun _ => ?_) (fun h => absurd (h.symm.trans g163) (by decide))
    first | refine o_faddr rfl rfl fld24_0 ?_ | refine o_faddrR rfl rfl fld24_0 ?_
    refine o_guard rfl rfl rfl rfl (fun _ => ?_) (fun h => absurd (h.symm.trans g163) (by decide))
    first | refine o_load1 rfl rfl rfl sh3 rfl ?_ | refine o_loadR1 rfl rfl sh3 rfl ?_
    refine o_guard rfl rfl rfl rfl (fun _ => ?_) (fun h => absurd (h.symm.trans g163) (by decide))
    refine o_add rfl rfl rfl (by unfold I64; omega) ?_
    refine o_guard rfl rfl rfl rfl (fun _ => ?_) (fun h => absurd (h.symm.trans g163) (by decide))
    refine o_leq rfl rfl rfl ?_
    refine o_pickT rfl rfl g163 ?_
    refine o_move rfl ?_
    refine o_guard rfl rfl rfl rfl (fun _ => ?_) (fun h => absurd (h.symm.trans g173) (by decide))
    first | refine o_faddr rfl rfl fld24_1 ?_ | refine o_faddrR rfl rfl fld24_1 ?_
    refine o_guard rfl rfl rfl rfl (fun _ => ?_) (fun h => absurd (h.symm.trans g173) (by decide))
    first | refine o_load1 rfl rfl rfl sh3 rfl ?_ | refine o_loadR1 rfl rfl sh3 rfl ?_
    refine o_guard rfl rfl rfl rfl (fun _ => ?_) (fun h => absurd (h.symm.trans g173) (by decide))
    first | refine o_faddr rfl rfl fld24_1 ?_ | refine o_faddrR rfl rfl fld24_1 ?_
    refine o_guard rfl rfl rfl rfl (fun _ => ?_) (fun h => absurd (h.symm.trans g173) (by decide))
    first | refine o_load1 rfl rfl rfl sh3 rfl ?_ | refine o_loadR1 rfl rfl sh3 rfl ?_
    refine o_guard rfl rfl rfl rfl (fun _ => ?_) (fun h => absurd (h.symm.trans g173) (by decide))
    first | refine o_faddr rfl rfl fld24_1 ?_ | refine o_faddrR rfl rfl fld24_1 ?_
    refine o_guard rfl rfl rfl rfl (fun _ => ?_) (fun h => absurd (h.symm.trans g173) (by decide))
    first | refine o_load1 rfl rfl rfl sh3 rfl ?_ | refine o_loadR1 rfl rfl sh3 rfl ?_
    refine o_guard rfl rfl rfl rfl (fun _ => ?_) (fun h => absurd (h.symm.trans g173) (by decide))
    refine o_add rfl rfl rfl (by unfold I64; omega) ?_
    refine o_guard rfl rfl rfl rfl (fun _ => ?_) (fun h => absurd (h.symm.trans g173) (by decide))
    refine o_leq rfl rfl rfl ?_
    refine o_pickT rfl rfl g173 ?_
    refine o_move rfl ?_
    refine o_guard rfl rfl rfl rfl (fun _ => ?_) (fun h => absurd (h.symm.trans g183) (by decide))
    refine o_call rfl (r8) (.lrefl _) ?_
    refine o_pickT rfl rfl g183 ?_
    refine o_assign rfl ?_
    refine o_nil ?_
    refine k_ret ?_
    refine ⟨.inr rfl, _, .cons _ _ _ _ (.tmp 4) .nil, ?_⟩
    exact .refl _

set_option maxHeartbeats 4000000 in
theorem ret6n (hi : Off is) {b : Bk} (hv : checkR b ≠ 0) (n0 n1 : Int) (r8 : RetP Try.prog is orc 8 [] (.bool true)) : RetP Try.prog is orc 6 [b.u, .agg [.int .i64 n0, .int .i64 n1]] (.bool true) := by
  refine ret_of body6 pure6 (hi 6 (by decide)) rfl rfl (dat_l2 (dat_bk b 5) (.agg _ _ (dat_l2 (.int _ _ _) (.int _ _ _)))) (.inl (.bool _ _)) ?_
  refine k_seq ?_
  refine k_region ?_   -- region 0 outright.go:445
  refine o_box rfl rfl ?_
  refine o_box rfl rfl ?_
  refine o_assign rfl ?_
  refine o_nil ?_
  refine k_seq ?_
  refine k_seq ?_
  refine k_region ?_   -- region 1 outright.go:446
  first | refine o_loadN rfl rfl rfl sh28 rfl ?_ | refine o_loadRN rfl rfl sh28 rfl ?_
  refine o_call rfl (ret7n hi hv) (.lrefl _) ?_
  refine o_not rfl rfl ?_
  refine o_nil ?_
  refine k_cond rfl (fun _ => ?_) (fun h => absurd (h.symm.trans rfl) (by decide))
  refine k_seq ?_
  refine k_region ?_   -- region 2 outright.go:447
  refine o_call rfl (r8) (.lrefl _) ?_
  refine o_assign rfl ?_
  refine o_nil ?_
  refine k_ret ?_
  refine ⟨.inr rfl, _, .cons _ _ _ _ (.tmp 4) .nil, ?_⟩
  exact .refl _

theorem und_struct {P : Program} {t : TypeId} (n : Nat) (h : (match P.underlying t with | some (.struct fs) => Nat.beq fs.size n | _ => false) = true) : ∃ fs, P.underlying t = some (.struct fs) := by
  cases hu : P.underlying t with
  | none => rw [hu] at h; cases h
  | some ty => rw [hu] at h; cases ty <;> first | exact ⟨_, rfl⟩ | cases h
theorem u3 : Try.prog.underlying 3 = some (.int .i64) := by kernel_rfl
theorem u22 : Try.prog.underlying 22 = some (.slice 39) := by kernel_rfl
theorem u25 : Try.prog.underlying 25 = some (.slice 24) := by kernel_rfl
theorem u26 : Try.prog.underlying 26 = some (.slice 49) := by kernel_rfl
theorem u42 : Try.prog.underlying 42 = some (.array 2 3) := by kernel_rfl
def fts (P : Program) (t : TypeId) : List TypeId := match P.underlying t with | some (.struct fs) => fs.toList.map (·.type) | _ => []
theorem f28 : fts Try.prog 28 = [22, 24, 3, 3, 24, 25, 3, 3, 24, 3, 26] := by kernel_rfl
theorem f24 : fts Try.prog 24 = [3, 3] := by kernel_rfl
theorem f39 : fts Try.prog 39 = [3, 24] := by kernel_rfl
theorem f49 : fts Try.prog 49 = [3, 3, 3] := by kernel_rfl
theorem cl39' : Program.cellsOf Try.prog 39 = 3 := by kernel_rfl
theorem cl49' : Program.cellsOf Try.prog 49 = 3 := by kernel_rfl
theorem cl24' : Program.cellsOf Try.prog 24 = 2 := by kernel_rfl
theorem shp_int {cs : List U} (h : Shp Try.prog 3 cs) : ∃ n : Int, cs = [.int .i64 n] := by
  cases h with
  | int _ k n hu _ => rw [u3] at hu; cases hu; exact ⟨n, rfl⟩
  | bool _ _ hu => rw [u3] at hu; cases hu
  | str _ _ hu => rw [u3] at hu; cases hu
  | slice _ _ _ hu => rw [u3] at hu; cases hu
  | struct _ _ _ hu => rw [u3] at hu; cases hu
  | array _ _ _ _ hu => rw [u3] at hu; cases hu
/-- a struct, by its fields' types -/
theorem shp_fields {P : Program} {t : TypeId} {cs : List U} (h : Shp P t cs) (hne : fts P t ≠ []) : ∃ fs : List Field, fs.map (·.type) = fts P t ∧ ShpF P fs cs := by
  have no : ∀ {ty}, P.underlying t = some ty → (∀ fs, ty ≠ .struct fs) → False := fun hu hn => hne (by unfold fts; rw [hu]; split <;> simp_all)
  cases h with
  | struct _ fs _ hu hf => exact ⟨fs.toList, by unfold fts; rw [hu], hf⟩
  | int _ k n hu _ => exact (no hu (by intro fs h; cases h)).elim
  | bool _ _ hu => exact (no hu (by intro fs h; cases h)).elim
  | str _ _ hu => exact (no hu (by intro fs h; cases h)).elim
  | slice _ _ _ hu => exact (no hu (by intro fs h; cases h)).elim
  | array _ _ _ _ hu => exact (no hu (by intro fs h; cases h)).elim
theorem shpF_cons {P : Program} {fs : List Field} {t : TypeId} {ts : List TypeId} {cs : List U} (h : ShpF P fs cs) (e : fs.map (·.type) = t :: ts) : ∃ gs xs ys, cs = xs ++ ys ∧ Shp P t xs ∧ ShpF P gs ys ∧ gs.map (·.type) = ts := by
  cases h with
  | nil => cases e
  | cons f fs xs ys h1 h2 =>
    simp only [List.map_cons, List.cons.injEq] at e
    obtain ⟨rfl, rfl⟩ := e
    exact ⟨fs, xs, ys, rfl, h1, h2, rfl⟩
theorem shpF_nil {P : Program} {fs : List Field} {cs : List U} (h : ShpF P fs cs) (e : fs.map (·.type) = []) : cs = [] := by
  cases h with
  | nil => rfl
  | cons => cases e
theorem shp_span {cs : List U} (h : Shp Try.prog 24 cs) : ∃ a b : Int, cs = [.int .i64 a, .int .i64 b] := by
  obtain ⟨fs, e, hf⟩ := shp_fields h (by rw [f24]; simp)
  rw [f24] at e
  obtain ⟨g1, a1, b1, rfl, k1, r1, e1⟩ := shpF_cons hf e
  obtain ⟨g2, a2, b2, rfl, k2, r2, e2⟩ := shpF_cons r1 e1
  obtain rfl := shpF_nil r2 e2
  obtain ⟨x, rfl⟩ := shp_int k1
  obtain ⟨y, rfl⟩ := shp_int k2
  exact ⟨x, y, rfl⟩
theorem shp_lot {cs : List U} (h : Shp Try.prog 39 cs) : ∃ q : Tri, cs = [.int .i64 q.a, .int .i64 q.b, .int .i64 q.c] := by
  obtain ⟨fs, e, hf⟩ := shp_fields h (by rw [f39]; simp)
  rw [f39] at e
  obtain ⟨g1, a1, b1, rfl, k1, r1, e1⟩ := shpF_cons hf e
  obtain ⟨g2, a2, b2, rfl, k2, r2, e2⟩ := shpF_cons r1 e1
  obtain rfl := shpF_nil r2 e2
  obtain ⟨z, rfl⟩ := shp_int k1
  obtain ⟨x, y, rfl⟩ := shp_span k2
  exact ⟨⟨z, x, y⟩, rfl⟩
theorem shp_look {cs : List U} (h : Shp Try.prog 49 cs) : ∃ q : Tri, cs = [.int .i64 q.a, .int .i64 q.b, .int .i64 q.c] := by
  obtain ⟨fs, e, hf⟩ := shp_fields h (by rw [f49]; simp)
  rw [f49] at e
  obtain ⟨g1, a1, b1, rfl, k1, r1, e1⟩ := shpF_cons hf e
  obtain ⟨g2, a2, b2, rfl, k2, r2, e2⟩ := shpF_cons r1 e1
  obtain ⟨g3, a3, b3, rfl, k3, r3, e3⟩ := shpF_cons r2 e2
  obtain rfl := shpF_nil r3 e3
  obtain ⟨x, rfl⟩ := shp_int k1
  obtain ⟨y, rfl⟩ := shp_int k2
  obtain ⟨z, rfl⟩ := shp_int k3
  exact ⟨⟨x, y, z⟩, rfl⟩
theorem shpL_map {P : Program} {e : TypeId} {α : Type} {f : α → List U} {css : List (List U)} (h : ShpL P e css) (k : ∀ cs, Shp P e cs → ∃ q, cs = f q) : ∃ l : List α, css = l.map f := by
  induction css with
  | nil => exact ⟨[], rfl⟩
  | cons cs css ih =>
    cases h with
    | cons _ _ _ h1 h2 =>
      obtain ⟨q, rfl⟩ := k _ h1
      obtain ⟨l, rfl⟩ := ih h2
      exact ⟨q :: l, rfl⟩
theorem shp_slice {P : Program} {t e : TypeId} {cs : List U} (hu : P.underlying t = some (.slice e)) (h : Shp P t cs) : ∃ css, ShpL P e css ∧ cs = [.lst .ro (P.cellsOf e) (css.map (eU P e))] := by
  cases h with
  | slice _ e' css hu' hl => rw [hu] at hu'; cases hu'; exact ⟨css, hl, rfl⟩
  | int _ k n hu' _ => rw [hu] at hu'; cases hu'
  | bool _ _ hu' => rw [hu] at hu'; cases hu'
  | str _ _ hu' => rw [hu] at hu'; cases hu'
  | struct _ _ _ hu' => rw [hu] at hu'; cases hu'
  | array _ _ _ _ hu' => rw [hu] at hu'; cases hu'
theorem eu39 : ∀ cs, eU Try.prog 39 cs = .agg cs := by
  obtain ⟨fs, h⟩ := und_struct (P := Try.prog) (t := 39) 2 (by kernel_rfl)
  intro cs; unfold eU; rw [h]
theorem eu49 : ∀ cs, eU Try.prog 49 cs = .agg cs := by
  obtain ⟨fs, h⟩ := und_struct (P := Try.prog) (t := 49) 3 (by kernel_rfl)
  intro cs; unfold eU; rw [h]
theorem eu24 : ∀ cs, eU Try.prog 24 cs = .agg cs := by
  obtain ⟨fs, h⟩ := und_struct (P := Try.prog) (t := 24) 2 (by kernel_rfl)
  intro cs; unfold eU; rw [h]
theorem map_tris {F : List U → U} (he : ∀ cs, F cs = .agg cs) (l : List Tri) : (l.map fun q : Tri => [U.int .i64 q.a, .int .i64 q.b, .int .i64 q.c]).map F = trisU l := by
  rw [List.map_map]
  exact List.map_congr_left fun q _ => he _
theorem map_twos {F : List U → U} (he : ∀ cs, F cs = .agg cs) (l : List Two) : (l.map fun q : Two => [U.int .i64 q.a, .int .i64 q.b]).map F = twosU l := by
  rw [List.map_map]
  exact List.map_congr_left fun q _ => he _
theorem shp_tris {t e : TypeId} (hu : Try.prog.underlying t = some (.slice e)) (hc : Program.cellsOf Try.prog e = 3) (hq : ∀ cs, Shp Try.prog e cs → ∃ q : Tri, cs = [.int .i64 q.a, .int .i64 q.b, .int .i64 q.c]) (he : ∀ cs, eU Try.prog e cs = .agg cs) {cs : List U} (h : Shp Try.prog t cs) : ∃ l : List Tri, cs = [.lst .ro 3 (trisU l)] := by
  obtain ⟨css, hl, rfl⟩ := shp_slice hu h
  obtain ⟨l, rfl⟩ := shpL_map (f := fun q : Tri => [.int .i64 q.a, .int .i64 q.b, .int .i64 q.c]) hl hq
  refine ⟨l, ?_⟩
  rw [hc, map_tris he]
theorem shp_twos {cs : List U} (h : Shp Try.prog 25 cs) : ∃ l : List Two, cs = [.lst .ro 2 (twosU l)] := by
  obtain ⟨css, hl, rfl⟩ := shp_slice u25 h
  obtain ⟨l, rfl⟩ := shpL_map (f := fun q : Two => [.int .i64 q.a, .int .i64 q.b]) hl fun cs hcs => by obtain ⟨x, y, rfl⟩ := shp_span hcs; exact ⟨⟨x, y⟩, rfl⟩
  refine ⟨l, ?_⟩
  rw [cl24', map_twos eu24]
theorem shp_book {cs : List U} (h : Shp Try.prog 28 cs) : ∃ b : Bk, cs = b.cs := by
  obtain ⟨fs, e, hf⟩ := shp_fields h (by rw [f28]; simp)
  rw [f28] at e
  obtain ⟨g1, a1, b1, rfl, k1, r1, e1⟩ := shpF_cons hf e
  obtain ⟨g2, a2, b2, rfl, k2, r2, e2⟩ := shpF_cons r1 e1
  obtain ⟨g3, a3, b3, rfl, k3, r3, e3⟩ := shpF_cons r2 e2
  obtain ⟨g4, a4, b4, rfl, k4, r4, e4⟩ := shpF_cons r3 e3
  obtain ⟨g5, a5, b5, rfl, k5, r5, e5⟩ := shpF_cons r4 e4
  obtain ⟨g6, a6, b6, rfl, k6, r6, e6⟩ := shpF_cons r5 e5
  obtain ⟨g7, a7, b7, rfl, k7, r7, e7⟩ := shpF_cons r6 e6
  obtain ⟨g8, a8, b8, rfl, k8, r8, e8⟩ := shpF_cons r7 e7
  obtain ⟨g9, a9, b9, rfl, k9, r9, e9⟩ := shpF_cons r8 e8
  obtain ⟨g10, a10, b10, rfl, k10, r10, e10⟩ := shpF_cons r9 e9
  obtain ⟨g11, a11, b11, rfl, k11, r11, e11⟩ := shpF_cons r10 e10
  obtain rfl := shpF_nil r11 e11
  obtain ⟨lots, rfl⟩ := shp_tris u22 cl39' (fun _ h => shp_lot h) eu39 k1
  obtain ⟨tlo, thi, rfl⟩ := shp_span k2
  obtain ⟨thick, rfl⟩ := shp_int k3
  obtain ⟨crack, rfl⟩ := shp_int k4
  obtain ⟨glo, ghi, rfl⟩ := shp_span k5
  obtain ⟨thins, rfl⟩ := shp_twos k6
  obtain ⟨hot, rfl⟩ := shp_int k7
  obtain ⟨least, rfl⟩ := shp_int k8
  obtain ⟨clo, chi, rfl⟩ := shp_span k9
  obtain ⟨coal, rfl⟩ := shp_int k10
  obtain ⟨looks, rfl⟩ := shp_tris u26 cl49' (fun _ h => shp_look h) eu49 k11
  exact ⟨⟨lots, tlo, thi, thick, crack, glo, ghi, thins, hot, least, clo, chi, coal, looks⟩, rfl⟩
theorem shp_two {cs : List U} (h : Shp Try.prog 42 cs) : ∃ a b : Int, cs = [.int .i64 a, .int .i64 b] := by
  cases h with
  | array _ n e css hu hl hn =>
    rw [u42] at hu; cases hu
    obtain ⟨l, rfl⟩ := shpL_map (f := fun n : Int => [U.int .i64 n]) hl fun cs hcs => shp_int hcs
    rw [List.length_map] at hn
    match l, hn with
    | [a, b], _ => exact ⟨a, b, rfl⟩
  | int _ k n hu _ => rw [u42] at hu; cases hu
  | bool _ _ hu => rw [u42] at hu; cases hu
  | str _ _ hu => rw [u42] at hu; cases hu
  | slice _ _ _ hu => rw [u42] at hu; cases hu
  | struct _ _ _ hu => rw [u42] at hu; cases hu
theorem shp_args {us : List U} (h : ShpAs Try.prog [28, 42] us) : ∃ (b : Bk) (n0 n1 : Int), us = [b.u, .agg [.int .i64 n0, .int .i64 n1]] := by
  cases h with
  | cons _ _ u us h1 h2 =>
    cases h2 with
    | cons _ _ v vs h3 h4 =>
      cases h4
      obtain ⟨fs, hu⟩ := und_struct (P := Try.prog) (t := 28) 11 (by kernel_rfl)
      unfold ShpA at h1 h3
      rw [hu] at h1
      rw [u42] at h3
      obtain ⟨cs, rfl, h1⟩ := h1
      obtain ⟨ds, rfl, h3⟩ := h3
      obtain ⟨b, rfl⟩ := shp_book h1
      obtain ⟨n0, n1, rfl⟩ := shp_two h3
      exact ⟨b, n0, n1, rfl⟩
theorem checkR_ok {b : Bk} (h : ¬ checkR b ≠ 0) : Ok b := by
  apply valid_ok
  cases hv : valid b with
  | true => rfl
  | false => exact absurd (by unfold checkR; rw [hv]; decide) h
theorem ret6_all (hi : Off is) (r8 : RetP Try.prog is orc 8 [] (.bool true)) : ∀ us, ShpAs Try.prog [28, 42] us → RetP Try.prog is orc 6 us (.bool true) := by
  intro us h
  obtain ⟨b, n0, n1, rfl⟩ := shp_args h
  by_cases hv : checkR b ≠ 0
  · exact ret6n hi hv n0 n1 r8
  · exact ret6 hi (checkR_ok hv) n0 n1 r8
end Go.Proofs.Ytniplfmjbjjocaa.forgeHeats
