/- forge's functions, the specification's and the law's, by the logic of trees: what each gives back for all that it may be given. -/
import Derived.Test.YtniplfmjbjjocaaGreatVamBlows2
namespace Go.Proofs.YtniplfmjbjjocaaGreat.forgeBlows
open Vam
set_option linter.unusedVariables false
set_option linter.unusedSimpArgs false
set_option linter.constructorNameAsVariable false
variable {is : FuncId → Bool} {orc : Known}

-- 62 saron/saronref00.Bit params [3, 3] pure True
noncomputable def b62 : Code := (Tryz.f62.body).getD .skip
theorem body62 : bodyOf Tryz.prog 62 = some (10, b62, [.tmp 4]) := by kernel_rfl
theorem pure62 : pureFn Tryz.prog 62 = true := by kernel_rfl
set_option maxHeartbeats 4000000 in
theorem ret62 (hi : Off is) (i : Nat) (h : i ≤ 64) : RetP Tryz.prog is orc 62 [.int .i64 0, .int .i64 i] (.bool false) := by
  refine ret_of body62 pure62 (hi 62 (by decide)) rfl rfl (dat_l2 (.int _ _ _) (.int _ _ _)) (.inl (.bool _ _)) ?_
  refine k_seq (k_region ?_)
  refine o_assign rfl ?_
  refine o_nil ?_
  refine k_seq (k_region ?_)
  refine o_move rfl ?_
  refine o_move rfl ?_
  refine o_shr rfl rfl rfl (by omega) ?_
  rw [Int.zero_fdiv]
  refine o_andOne rfl rfl rfl (by omega) ?_
  refine o_eql rfl rfl rfl ?_
  refine o_assign rfl ?_
  refine o_nil ?_
  refine k_ret ?_
  refine ⟨.inr rfl, _, .cons _ _ _ _ (.tmp 4) .nil, ?_⟩
  exact .refl _

-- 91 saron/saronref00.Plain params [3] pure True
noncomputable def b91 : Code := (Tryz.f91.body).getD .skip
theorem body91 : bodyOf Tryz.prog 91 = some (8, b91, [.tmp 2]) := by kernel_rfl
theorem pure91 : pureFn Tryz.prog 91 = true := by kernel_rfl
set_option maxHeartbeats 4000000 in
theorem ret91 (hi : Off is) (n : Int) (h : -100000 ≤ n ∧ n ≤ 100000) : RetP Tryz.prog is orc 91 [.int .i64 n] (.int .i64 (if n < 0 then -n else n)) := by
  refine ret_of body91 pure91 (hi 91 (by decide)) rfl rfl (dat_l1 (.int _ _ _)) (.inl (.int _ _ _)) ?_
  refine k_seq (k_region ?_)
  refine o_assign rfl ?_
  refine o_nil ?_
  refine k_seq ?_
  refine k_seq (k_region ?_)
  refine o_move rfl ?_
  refine o_lss rfl rfl rfl ?_
  refine o_nil ?_
  refine k_cond rfl (fun h1 => ?_) (fun h1 => ?_)
  · refine k_seq (k_region ?_)
    refine o_move rfl ?_
    refine o_neg rfl rfl (by unfold I64; omega) ?_
    refine o_assign rfl ?_
    refine o_nil ?_
    refine k_ret ?_
    refine ⟨.inr rfl, _, .cons _ _ _ _ (.tmp 2) .nil, ?_⟩
    rw [if_pos (of_decide_eq_true h1)]; exact .refl _
  · refine k_skip ?_
    refine k_seq (k_region ?_)
    refine o_move rfl ?_
    refine o_assign rfl ?_
    refine o_nil ?_
    refine k_ret ?_
    refine ⟨.inr rfl, _, .cons _ _ _ _ (.tmp 2) .nil, ?_⟩
    rw [if_neg (of_decide_eq_false h1)]; exact .refl _

def afI (th : Int) (q : Tri) (n : Int) (i : Nat) : Int := th - ((if 0 < i then q.a * bl n 0 else 0) + (if 1 < i then q.b * bl n 1 else 0) + (if 2 < i then q.c * bl n 2 else 0))
theorem afI_succ {th : Int} {q : Tri} {n : Int} {i : Nat} (hi : i < 3) : afI th q n (i + 1) = afI th q n i - q.th i * bl n i := by
  have e : i = 0 ∨ i = 1 ∨ i = 2 := by omega
  rcases e with rfl | rfl | rfl
  · show th - (q.a * bl n 0 + 0 + 0) = th - (0 + 0 + 0) - q.a * bl n 0; omega
  · show th - (q.a * bl n 0 + q.b * bl n 1 + 0) = th - (q.a * bl n 0 + 0 + 0) - q.b * bl n 1; omega
  · show th - (q.a * bl n 0 + q.b * bl n 1 + q.c * bl n 2) = th - (q.a * bl n 0 + q.b * bl n 1 + 0) - q.c * bl n 2; omega
theorem afI_three (th : Int) (q : Tri) (n : Int) : afI th q n 3 = aft th q n := rfl
theorem tri_at (q : Tri) {i : Nat} (hi : i < 3) : ([U.int .i64 q.a, .int .i64 q.b, .int .i64 q.c])[0 + (i : Int).toNat * 1]? = some (.int .i64 (q.th i)) := by
  have e : i = 0 ∨ i = 1 ∨ i = 2 := by omega
  rcases e with rfl | rfl | rfl <;> rfl

-- 68 saron/saronref02.after params [28, 46, 3] pure True
noncomputable def b68 : Code := (Tryz.f68.body).getD .skip
theorem body68 : bodyOf Tryz.prog 68 = some (27, b68, [.tmp 6]) := by kernel_rfl
theorem pure68 : pureFn Tryz.prog 68 = true := by kernel_rfl
set_option maxHeartbeats 4000000 in
theorem ret68 (hi : Off is) {b : Bk} {q : Tri} (hd : DOk b.thick q) (n : Int) (hn : 0 ≤ n ∧ n ≤ 301) : RetP Tryz.prog is orc 68 [b.u, q.u, .int .i64 n] (.int .i64 (aft b.thick q n)) := by
  refine ret_of body68 pure68 (hi 68 (by decide)) rfl rfl (dat_l3 (dat_bk b 5) (.agg _ _ (dat_l3 (.int _ _ _) (.int _ _ _) (.int _ _ _))) (.int _ _ _)) (.inl (.int _ _ _)) ?_
  refine k_seq (k_region ?_)
  refine o_box rfl rfl ?_
  refine o_box rfl rfl ?_
  refine o_assign rfl ?_
  refine o_nil ?_
  refine k_seq (k_region ?_)
  refine o_faddr rfl rfl fld28_2 ?_
  refine o_load1 rfl rfl rfl sh3 rfl ?_
  refine o_assign rfl ?_
  refine o_nil ?_
  refine k_seq ?_
  refine k_seq (k_region ?_)
  refine o_assign rfl ?_
  refine o_nil ?_
  refine k_block ?_

  refine k_loop (fun k s => ∃ i : Nat, k + i = 3 ∧ (-6060 ≤ afI b.thick q n i ∧ afI b.thick q n i ≤ 3000) ∧ s.st = [.box b.cs, .box [.int .i64 q.a, .int .i64 q.b, .int .i64 q.c]] ∧ Holds s [(2, .int .i64 n), (4, .box 1 0), (7, .int .i64 (afI b.thick q n i)), (8, .int .i64 i)]) (fun k s hI => ?_) 3 _ ?_
  · obtain ⟨i, hk, hb, hst, hs⟩ := hI
    refine k_gen _ _ hs hst fun fr => ?_
    refine k_seq ?_
    refine k_seq (k_region ?_)
    refine o_move rfl ?_
    refine o_lss rfl rfl rfl ?_
    refine o_nil ?_
    refine k_cond rfl (fun h1 => ?_) (fun h1 => ?_)
    · have hi3 : i < 3 := by have := of_decide_eq_true h1; omega
      have hbl := bl_b hn (s := i) (by omega)
      have hm := mul_b (hd.th i) hbl
      have e1 : (n + 2 - (i : Int)).tdiv 3 = bl n i := by rw [Int.tdiv_eq_ediv_of_nonneg (by omega)]; rfl
      have ha := afI_succ (th := b.thick) (q := q) (n := n) hi3
      have hb2 : -6060 ≤ afI b.thick q n (i + 1) ∧ afI b.thick q n (i + 1) ≤ 3000 := by
        have h0 := mul_b hd.a (bl_b hn (s := 0) (by omega))
        have h1 := mul_b hd.b (bl_b hn (s := 1) (by omega))
        have h2 := mul_b hd.c (bl_b hn (s := 2) (by omega))
        have := hd.t
        unfold afI; split <;> split <;> split <;> omega
      refine k_skip ?_
      refine k_seq ?_
      refine k_block ?_
      refine k_region ?_
      refine o_move rfl ?_
      refine o_move rfl ?_
      refine o_idxA rfl ty46 rfl rfl (by omega) (by omega) cl3 ?_
      refine o_load1 rfl rfl rfl sh3 (tri_at q hi3) ?_
      refine o_move rfl ?_
      refine o_add rfl rfl rfl (by unfold I64; omega) ?_
      refine o_move rfl ?_
      refine o_sub rfl rfl rfl (by unfold I64; omega) ?_
      refine o_quo rfl rfl rfl (by omega) (by rw [e1]; unfold I64; omega) ?_
      rw [e1]
      refine o_mul rfl rfl rfl (by unfold I64; omega) ?_
      refine o_sub rfl rfl rfl (by unfold I64; omega) ?_
      refine o_assign rfl ?_
      refine o_nil ?_
      refine k_region ?_
      refine o_move rfl ?_
      refine o_add rfl rfl rfl (by unfold I64; omega) ?_
      refine o_assign rfl ?_
      refine o_nil ?_
      exact ⟨k - 1, by omega, i + 1, by omega, hb2, rfl, .cons rfl (.cons rfl (.cons (by rw [ha]; rfl) (.cons rfl (.nil rfl))))⟩
    · refine k_exit ?_
      refine k_seq (k_region ?_)
      refine o_move rfl ?_
      refine o_assign rfl ?_
      refine o_nil ?_
      refine k_ret ?_
      refine ⟨.inr rfl, _, .cons _ _ _ _ (.tmp 6) .nil, ?_⟩
      have hi3 : i = 3 := by have := of_decide_eq_false h1; omega
      rw [← afI_three, ← hi3]; exact .refl _
  · exact ⟨0, rfl, (by have := hd.t; unfold afI; simp; omega), rfl, .cons rfl (.cons rfl (.cons (by unfold afI; simp; rfl) (.cons rfl (.nil rfl))))⟩

theorem okD_all (b : Bk) (q : Tri) : okD b q = b.looks.all fun x => !bel b.thick q x := by
  unfold okD
  rw [← List.not_any_eq_all_not]
theorem bel_plain (th : Int) (q x : Tri) : decide (x.c < (if aft th q x.a - x.b < 0 then -(aft th q x.a - x.b) else aft th q x.a - x.b)) = bel th q x := by
  unfold bel
  rw [Bool.eq_iff_iff]
  simp only [decide_eq_true_eq, Bool.not_eq_true', Bool.and_eq_false_iff, decide_eq_false_iff_not]
  split <;> omega
theorem all_drop {α : Type} {p : α → Bool} {l : List α} {n : Nat} {x : α} (h : l[n]? = some x) (h2 : p x = true) : l.all p = ((l.take (n + 1)).all p && (l.drop (n + 1)).all p) := by
  rw [← List.all_append, List.take_append_drop]

-- 73 saron/saronref02.seen params [28, 46, 3] pure True
noncomputable def b73 : Code := (Tryz.f73.body).getD .skip
theorem body73 : bodyOf Tryz.prog 73 = some (39, b73, [.tmp 6]) := by kernel_rfl
theorem pure73 : pureFn Tryz.prog 73 = true := by kernel_rfl
set_option maxHeartbeats 4000000 in
theorem ret73 (hi : Off is) {b : Bk} (hb : Ok b) {q : Tri} (hd : DOk b.thick q) : RetP Tryz.prog is orc 73 [b.u, q.u, .int .i64 0] (.bool (okD b q)) := by
  refine ret_of body73 pure73 (hi 73 (by decide)) rfl rfl (dat_l3 (dat_bk b 5) (.agg _ _ (dat_l3 (.int _ _ _) (.int _ _ _) (.int _ _ _))) (.int _ _ _)) (.inl (.bool _ _)) ?_
  refine k_seq (k_region ?_)
  refine o_box rfl rfl ?_
  refine o_box rfl rfl ?_
  refine o_assign rfl ?_
  refine o_nil ?_
  refine k_seq ?_
  refine k_seq (k_region ?_)
  refine o_assign rfl ?_
  refine o_nil ?_
  refine k_block ?_

  refine k_loop (fun k s => ∃ (i : Nat) (e : List SB), k + i = b.looks.length ∧ (b.looks.take i).all (fun x => !bel b.thick q x) = true ∧ s.st = [.box b.cs, .box [.int .i64 q.a, .int .i64 q.b, .int .i64 q.c]] ++ e ∧ Holds s [(2, .int .i64 0), (3, .box 0 0), (4, .box 1 0), (7, .int .i64 i)]) (fun k s hI => ?_) b.looks.length _ ?_
  · obtain ⟨i, e, hk, hall, hst, hs⟩ := hI
    generalize hY : [SB.box b.cs, .box [.int .i64 q.a, .int .i64 q.b, .int .i64 q.c]] ++ e = Y at hst
    have hY0 : Y[0]? = some (.box b.cs) := by rw [← hY]; rfl
    refine k_gen _ _ hs hst fun fr => ?_
    refine k_seq ?_
    refine k_seq (k_region ?_)
    refine o_move rfl ?_
    refine o_faddr rfl rfl fld28_10 ?_
    refine o_load1 rfl rfl hY0 sh26 rfl ?_
    refine o_len rfl ty26 rfl rfl ?_
    refine o_lss rfl rfl rfl ?_
    refine o_nil ?_
    refine k_cond rfl (fun h1 => ?_) (fun h1 => ?_)
    · have hi3 : i < b.looks.length := by have := of_decide_eq_true h1; simp at this; omega
      obtain ⟨x, hq⟩ : ∃ x, b.looks[i]? = some x := ⟨b.looks[i], List.getElem?_eq_getElem hi3⟩
      have hx := hb.looks x (List.mem_of_getElem? hq)
      have hnk := hb.nk
      have ha := aft_b hd (n := x.a) (by omega)
      refine k_skip ?_
      refine k_seq ?_
      refine k_block ?_
      refine k_seq (k_region ?_)
      refine o_faddr rfl rfl fld28_10 ?_
      refine o_load1 rfl rfl hY0 sh26 rfl ?_
      refine o_move rfl ?_
      refine o_idx (u := x.u) rfl ty26 rfl rfl (Int.natCast_nonneg i) (by simp [hq]) cl56 ?_
      refine o_loadRN rfl rfl sh56 rfl ?_
      refine o_alloc rfl ze56 ?_
      refine o_storeN rfl (at_new _ _) sh56 rfl rfl rfl rfl rfl ?_
      refine o_nil ?_
      refine k_gen [(2, .int .i64 0), (3, .box 0 0), (4, .box 1 0), (7, .int .i64 i), (8, .box (2 + e.length) 0)] ([.box b.cs, .box [.int .i64 q.a, .int .i64 q.b, .int .i64 q.c]] ++ (e ++ [.box [.int .i64 x.a, .int .i64 x.b, .int .i64 x.c]])) (.cons rfl (.cons rfl (.cons rfl (.cons rfl (.cons (by show U.box Y.length 0 = _; rw [← hY]; simp; omega) (.nil rfl)))))) (by show (Y ++ [SB.box _]).set Y.length (SB.box _) = _; rw [set_end, ← hY, List.append_assoc]; rfl) fun fr => ?_
      have hbx : ∀ y z : SB, ([y, z] ++ (e ++ [SB.box [.int .i64 x.a, .int .i64 x.b, .int .i64 x.c]]))[2 + e.length]? = some (.box [.int .i64 x.a, .int .i64 x.b, .int .i64 x.c]) := fun y z => by
        rw [← List.append_assoc, show 2 + e.length = ([y, z] ++ e).length by simp; omega]; exact at_new _ _
      refine k_seq ?_
      refine k_draw [.plain, .plain, .plain, .plain, .plain, .read true, .read true, .plain, .read true, .read false, .plain, .read true, .plain, .read false, .plain, .read true, .plain, .plain] (by kernel_rfl) (by kernel_rfl) (by kernel_rfl) ?_
      refine d_plain (o_move rfl (o_nil rfl)) ?_
      refine d_plain (o_move rfl (o_nil rfl)) ?_
      refine d_plain (o_call rfl (ret62 hi i (by omega)) (.lrefl _) (o_nil rfl)) ?_
      refine d_plain (o_not rfl rfl (o_nil rfl)) ?_
      refine d_plain (o_move rfl (o_nil rfl)) ?_
      refine d_gD rfl rfl rfl rfl rfl ?_
      refine d_load rfl (o_loadN rfl rfl rfl sh28 rfl (o_nil rfl)) ?_
      refine d_gD rfl rfl rfl rfl rfl ?_
      refine d_load rfl (o_loadN rfl rfl rfl sh46 rfl (o_nil rfl)) ?_
      refine d_gD rfl rfl rfl rfl rfl ?_
      refine d_plain (o_faddr rfl rfl fld56_0 (o_nil rfl)) ?_
      refine d_gD rfl rfl rfl rfl rfl ?_
      refine d_load rfl (o_load1 rfl rfl (hbx _ _) sh3 rfl (o_nil rfl)) ?_
      refine d_gD rfl rfl rfl rfl rfl ?_
      refine d_callR rfl (ret68 hi hd x.a (by omega)) (flat_int _) (.lrefl _) ?_
      refine d_gD rfl rfl rfl rfl rfl ?_
      refine d_plain (o_faddr rfl rfl fld56_1 (o_nil rfl)) ?_
      refine d_gD rfl rfl rfl rfl rfl ?_
      refine d_load rfl (o_load1 rfl rfl (hbx _ _) sh3 rfl (o_nil rfl)) ?_
      refine d_gD rfl rfl rfl rfl rfl ?_
      refine d_plain (o_sub rfl rfl rfl (by unfold I64; omega) (o_nil rfl)) ?_
      refine d_gD rfl rfl rfl rfl rfl ?_
      refine d_callR rfl (ret91 hi (aft b.thick q x.a - x.b) (by omega)) (flat_int _) (.lrefl _) ?_
      refine d_gD rfl rfl rfl rfl rfl ?_
      refine d_plain (o_faddr rfl rfl fld56_2 (o_nil rfl)) ?_
      refine d_gD rfl rfl rfl rfl rfl ?_
      refine d_load rfl (o_load1 rfl rfl (hbx _ _) sh3 rfl (o_nil rfl)) ?_
      refine d_gD rfl rfl rfl rfl rfl ?_
      refine d_plain (o_gtr rfl rfl rfl (o_nil rfl)) ?_
      refine d_plain (o_pickT rfl rfl rfl (o_nil rfl)) ?_
      refine d_nil ?_
      refine k_cond rfl (fun h2 => ?_) (fun h2 => ?_)
      · refine k_seq (k_region ?_)
        refine o_assign rfl ?_
        refine o_nil ?_
        refine k_ret ?_
        refine ⟨.inr rfl, _, .cons _ _ _ _ (.tmp 6) .nil, ?_⟩
        rw [okD_all, all_not hq (by rw [← bel_plain, show decide _ = true from h2]; rfl)]; exact .refl _
      · refine k_skip ?_
        refine k_region ?_
        refine o_move rfl ?_
        refine o_add rfl rfl rfl (by unfold I64; omega) ?_
        refine o_assign rfl ?_
        refine o_nil ?_
        exact ⟨k - 1, by omega, i + 1, e ++ [_], by omega, (all_take hq hall (by rw [← bel_plain, show decide _ = false from h2]; rfl)), rfl, .cons rfl (.cons rfl (.cons rfl (.cons rfl (.nil rfl))))⟩
    · refine k_exit ?_
      refine k_seq (k_region ?_)
      refine o_assign rfl ?_
      refine o_nil ?_
      refine k_ret ?_
      refine ⟨.inr rfl, _, .cons _ _ _ _ (.tmp 6) .nil, ?_⟩
      subst hY
      have hi3 : i = b.looks.length := by have := of_decide_eq_false h1; simp at this; omega
      rw [okD_all, ← List.take_length (l := b.looks), ← hi3, hall]; exact .refl _
  · exact ⟨0, [], rfl, rfl, rfl, .cons rfl (.cons rfl (.cons rfl (.cons rfl (.nil rfl))))⟩

theorem by46 : Program.bytesOf Tryz.prog 46 = 24 := by kernel_rfl
theorem cl46 : Program.cellsOf Tryz.prog 46 = 3 := by kernel_rfl
theorem pl46 : plcOf Tryz.prog 46 = some [(0, 1), (1, 1), (2, 1)] := by kernel_rfl
theorem ty71 : tyOf Tryz.prog 71 = .slice 46 := by kernel_rfl
theorem ap71_71 : AppT Tryz.prog 71 71 46 3 24 ((.cons (.int .i64 0) (.cons (.int .i64 0) (.cons (.int .i64 0) .nil))) : V) := ⟨ty71, ⟨_, ty71⟩, cl46, by decide, by46, ze46, rfl⟩
theorem dok_zero {b : Bk} (hb : Ok b) : DOk b.thick zeroTri := ⟨hb.thick, by decide, by decide, by decide⟩
theorem filt_snoc {α : Type} (p : α → Bool) (l : List α) (x : α) : (p x = true → (l ++ [x]).filter p = l.filter p ++ [x]) ∧ (p x = false → (l ++ [x]).filter p = l.filter p) := by
  constructor <;> intro h <;> simp [h]

-- 46 saron/saronref02.truths params [28, 3] pure True
noncomputable def b46 : Code := (Tryz.f46.body).getD .skip
theorem body46 : bodyOf Tryz.prog 46 = some (66, b46, [.tmp 4]) := by kernel_rfl
theorem pure46 : pureFn Tryz.prog 46 = true := by kernel_rfl
set_option maxHeartbeats 4000000 in
theorem ret46 (hi : Off is) {b : Bk} (hb : Ok b) : RetP Tryz.prog is orc 46 [b.u, .int .i64 0] (.lst .ro 3 (trisU (trs b))) := by
  refine ret_of body46 pure46 (hi 46 (by decide)) rfl rfl (dat_l2 (dat_bk b 5) (.int _ _ _)) (.inl (dat_tris _ .ro (fun h => by cases h) 6)) ?_
  obtain ⟨p0, e0⟩ : ∃ p, b.thins[0]? = some p := ⟨_, List.getElem?_eq_getElem (by rw [hb.nt]; omega)⟩
  obtain ⟨p1, e1⟩ : ∃ p, b.thins[1]? = some p := ⟨_, List.getElem?_eq_getElem (by rw [hb.nt]; omega)⟩
  obtain ⟨p2, e2⟩ : ∃ p, b.thins[2]? = some p := ⟨_, List.getElem?_eq_getElem (by rw [hb.nt]; omega)⟩
  obtain ⟨f0, g0⟩ := loT_at e0
  obtain ⟨f1, g1⟩ := loT_at e1
  obtain ⟨f2, g2⟩ := loT_at e2
  have w0 := wid_le hb 0; have w1 := wid_le hb 1; have w2 := wid_le hb 2
  have t3 : ∀ j1 j2 j3 : Nat, part b 2 0 zeroTri j1 ++ part b 1 1 (setT zeroTri 0 (p0.a + j1)) j2 ++ part b 0 2 (setT (setT zeroTri 0 (p0.a + j1)) 1 (p1.a + j2)) (j3 + 1) = (part b 2 0 zeroTri j1 ++ part b 1 1 (setT zeroTri 0 (p0.a + j1)) j2 ++ part b 0 2 (setT (setT zeroTri 0 (p0.a + j1)) 1 (p1.a + j2)) j3) ++ [setT (setT (setT zeroTri 0 (p0.a + j1)) 1 (p1.a + j2)) 2 (p2.a + j3)] := by
    intro j1 j2 j3
    rw [part_succ, ← f2, List.append_assoc _ _ [_]]; rfl
  have t2 : ∀ j1 j2 : Nat, part b 2 0 zeroTri j1 ++ part b 1 1 (setT zeroTri 0 (p0.a + j1)) (j2 + 1) = part b 2 0 zeroTri j1 ++ part b 1 1 (setT zeroTri 0 (p0.a + j1)) j2 ++ part b 0 2 (setT (setT zeroTri 0 (p0.a + j1)) 1 (p1.a + j2)) (widT b 2) := by
    intro j1 j2
    rw [part_succ, ← f1, ← List.append_assoc]; rfl
  have t1 : ∀ j1 : Nat, part b 2 0 zeroTri (j1 + 1) = part b 2 0 zeroTri j1 ++ part b 1 1 (setT zeroTri 0 (p0.a + j1)) (widT b 1) := by
    intro j1
    rw [part_succ, ← f0]; rfl
  refine k_seq (k_region ?_)
  refine o_box rfl rfl ?_
  refine o_assign rfl ?_
  refine o_nil ?_
  refine k_seq (k_region ?_)
  refine o_assignN 3 rfl (fun _ => rfl) ?_
  refine o_nil ?_
  refine k_seq ?_
  refine k_seq (k_region ?_)
  refine o_faddr rfl rfl fld28_5 ?_
  refine o_load1 rfl rfl rfl sh25 rfl ?_
  refine o_idx (u := p0.u) rfl ty25 rfl rfl (by decide) (by simp [e0]) cl24 ?_
  refine o_faddrR rfl rfl fld24_0 ?_
  refine o_loadR1 rfl rfl sh3 rfl ?_
  refine o_assign rfl ?_
  refine o_nil ?_
  refine k_block ?_

  refine k_loop (fun k s => ∃ j1 : Nat, k + j1 = widT b 0 ∧ s.st = [.box b.cs] ∧ Holds s [(1, .int .i64 0), (2, .box 0 0), (5, .lst .own 3 (trisU ((part b 2 0 zeroTri j1).filter (okD b)))), (6, .int .i64 (p0.a + j1))]) (fun k1 s hI => ?_) (widT b 0) _ ?_
  · obtain ⟨j1, hk1, hst, hs⟩ := hI
    refine k_gen _ _ hs hst fun fr1 => ?_
    refine k_seq ?_
    refine k_seq (k_region ?_)
    refine o_move rfl ?_
    refine o_faddr rfl rfl fld28_5 ?_
    refine o_load1 rfl rfl rfl sh25 rfl ?_
    refine o_idx (u := p0.u) rfl ty25 rfl rfl (by decide) (by simp [e0]) cl24 ?_
    refine o_faddrR rfl rfl fld24_1 ?_
    refine o_loadR1 rfl rfl sh3 rfl ?_
    refine o_leq rfl rfl rfl ?_
    refine o_nil ?_
    refine k_cond rfl (fun h1 => ?_) (fun h1 => ?_)
    · have c0 : p0.a + j1 ≤ p0.b := of_decide_eq_true h1
      have d0 : j1 < widT b 0 := by unfold widT; omega
      refine k_skip ?_
      refine k_seq ?_
      refine k_block ?_
      refine k_seq (k_region ?_)
      refine o_faddr rfl rfl fld28_5 ?_
      refine o_load1 rfl rfl rfl sh25 rfl ?_
      refine o_idx (u := p1.u) rfl ty25 rfl rfl (by decide) (by simp [e1]) cl24 ?_
      refine o_faddrR rfl rfl fld24_0 ?_
      refine o_loadR1 rfl rfl sh3 rfl ?_
      refine o_assign rfl ?_
      refine o_nil ?_
      refine k_block ?_

      refine k_loop (fun k s => ∃ j2 : Nat, k + j2 = widT b 1 ∧ s.st = [.box b.cs] ∧ Holds s [(1, .int .i64 0), (2, .box 0 0), (5, .lst .own 3 (trisU ((part b 2 0 zeroTri j1 ++ part b 1 1 (setT zeroTri 0 (p0.a + j1)) j2).filter (okD b)))), (6, .int .i64 (p0.a + j1)), (7, .int .i64 (p1.a + j2))]) (fun k2 s hI => ?_) (widT b 1) _ ?_
      · obtain ⟨j2, hk2, hst, hs⟩ := hI
        refine k_gen _ _ hs hst fun fr2 => ?_
        refine k_seq ?_
        refine k_seq (k_region ?_)
        refine o_move rfl ?_
        refine o_faddr rfl rfl fld28_5 ?_
        refine o_load1 rfl rfl rfl sh25 rfl ?_
        refine o_idx (u := p1.u) rfl ty25 rfl rfl (by decide) (by simp [e1]) cl24 ?_
        refine o_faddrR rfl rfl fld24_1 ?_
        refine o_loadR1 rfl rfl sh3 rfl ?_
        refine o_leq rfl rfl rfl ?_
        refine o_nil ?_
        refine k_cond rfl (fun h2 => ?_) (fun h2 => ?_)
        · have c1 : p1.a + j2 ≤ p1.b := of_decide_eq_true h2
          have d1 : j2 < widT b 1 := by unfold widT; omega
          refine k_skip ?_
          refine k_seq ?_
          refine k_block ?_
          refine k_seq (k_region ?_)
          refine o_faddr rfl rfl fld28_5 ?_
          refine o_load1 rfl rfl rfl sh25 rfl ?_
          refine o_idx (u := p2.u) rfl ty25 rfl rfl (by decide) (by simp [e2]) cl24 ?_
          refine o_faddrR rfl rfl fld24_0 ?_
          refine o_loadR1 rfl rfl sh3 rfl ?_
          refine o_assign rfl ?_
          refine o_nil ?_
          refine k_block ?_

          refine k_loop (fun k s => ∃ j3 : Nat, k + j3 = widT b 2 ∧ s.st = [.box b.cs] ∧ Holds s [(1, .int .i64 0), (2, .box 0 0), (5, .lst .own 3 (trisU ((part b 2 0 zeroTri j1 ++ part b 1 1 (setT zeroTri 0 (p0.a + j1)) j2 ++ part b 0 2 (setT (setT zeroTri 0 (p0.a + j1)) 1 (p1.a + j2)) j3).filter (okD b)))), (6, .int .i64 (p0.a + j1)), (7, .int .i64 (p1.a + j2)), (8, .int .i64 (p2.a + j3))]) (fun k3 s hI => ?_) (widT b 2) _ ?_
          · obtain ⟨j3, hk3, hst, hs⟩ := hI
            refine k_gen _ _ hs hst fun fr3 => ?_
            refine k_seq ?_
            refine k_seq (k_region ?_)
            refine o_move rfl ?_
            refine o_faddr rfl rfl fld28_5 ?_
            refine o_load1 rfl rfl rfl sh25 rfl ?_
            refine o_idx (u := p2.u) rfl ty25 rfl rfl (by decide) (by simp [e2]) cl24 ?_
            refine o_faddrR rfl rfl fld24_1 ?_
            refine o_loadR1 rfl rfl sh3 rfl ?_
            refine o_leq rfl rfl rfl ?_
            refine o_nil ?_
            refine k_cond rfl (fun h3 => ?_) (fun h3 => ?_)
            · have c2 : p2.a + j3 ≤ p2.b := of_decide_eq_true h3
              have d2 : j3 < widT b 2 := by unfold widT; omega
              have hq3 : DOk b.thick (setT (setT (setT zeroTri 0 (p0.a + j1)) 1 (p1.a + j2)) 2 (p2.a + j3)) := setT_ok (setT_ok (setT_ok (dok_zero hb) 0 (by omega)) 1 (by omega)) 2 (by omega)
              have hlen := part_len hb 2 0 zeroTri j1
              have hlen2 := part_len hb 1 1 (setT zeroTri 0 (p0.a + j1)) j2
              have hlen3 := part_len hb 0 2 (setT (setT zeroTri 0 (p0.a + j1)) 1 (p1.a + j2)) j3
              have hroom : ((part b 2 0 zeroTri j1 ++ part b 1 1 (setT zeroTri 0 (p0.a + j1)) j2 ++ part b 0 2 (setT (setT zeroTri 0 (p0.a + j1)) 1 (p1.a + j2)) j3).filter (okD b)).length ≤ 8000 := by
                refine Nat.le_trans (List.length_filter_le _ _) ?_
                simp only [List.length_append]
                have w0 := wid_le hb 0; have w1 := wid_le hb 1; have w2 := wid_le hb 2
                have : j1 < 20 := by omega
                have : j2 < 20 := by omega
                have : j3 < 20 := by omega
                omega
              refine k_skip ?_
              refine k_seq ?_
              refine k_block ?_
              refine k_seq (k_region ?_)
              refine o_loadN rfl rfl rfl sh28 rfl ?_
              refine o_move rfl ?_
              refine o_move rfl ?_
              refine o_move rfl ?_
              refine o_build rfl ze46 pl46 rfl rfl ?_
              refine o_move rfl ?_
              refine o_call rfl (ret73 hi hb hq3) (.lrefl _) ?_
              refine o_nil ?_
              refine k_cond rfl (fun h4 => ?_) (fun h4 => ?_)
              · refine k_region ?_
                refine o_move rfl ?_
                refine o_move rfl ?_
                refine o_move rfl ?_
                refine o_move rfl ?_
                refine o_build rfl ze46 pl46 rfl rfl ?_
                refine o_lit (es := [(setT (setT (setT zeroTri 0 (p0.a + j1)) 1 (p1.a + j2)) 2 (p2.a + j3)).u]) rfl ty71 ze46 cl46 rfl rfl rfl rfl rfl rfl rfl rfl ?_
                refine o_appendS 5 rfl ap71_71 rfl rfl rfl (by simp) (by simp) (by simp [flatU, cellsU, oneU]) (by simp only [List.length_map, List.length_cons, List.length_nil]; omega) ?_
                refine o_assign rfl ?_
                refine o_nil ?_
                refine k_region ?_
                refine o_move rfl ?_
                refine o_add rfl rfl rfl (by unfold I64; omega) ?_
                refine o_assign rfl ?_
                refine o_nil ?_
                refine ⟨k3 - 1, by omega, j3 + 1, by omega, rfl, .cons rfl (.cons rfl (.cons ?_ (.cons rfl (.cons rfl (.cons (congrArg (U.int .i64) (by omega)) (.nil rfl))))))⟩
                rw [t3 j1 j2 j3, (filt_snoc (okD b) _ _).1 h4]; simp [trisU]; rfl
              · refine k_skip ?_
                refine k_region ?_
                refine o_move rfl ?_
                refine o_add rfl rfl rfl (by unfold I64; omega) ?_
                refine o_assign rfl ?_
                refine o_nil ?_
                refine ⟨k3 - 1, by omega, j3 + 1, by omega, rfl, .cons rfl (.cons rfl (.cons ?_ (.cons rfl (.cons rfl (.cons (congrArg (U.int .i64) (by omega)) (.nil rfl))))))⟩
                rw [t3 j1 j2 j3, (filt_snoc (okD b) _ _).2 h4]; rfl
            · refine k_exit ?_
              have x3 : j3 = widT b 2 := by have := of_decide_eq_false h3; unfold widT at hk3 ⊢; omega
              subst x3
              refine k_region ?_
              refine o_move rfl ?_
              refine o_add rfl rfl rfl (by unfold I64; omega) ?_
              refine o_assign rfl ?_
              refine o_nil ?_
              refine ⟨k2 - 1, by omega, j2 + 1, by omega, rfl, .cons rfl (.cons rfl (.cons ?_ (.cons rfl (.cons (congrArg (U.int .i64) (by omega)) (.nil rfl)))))⟩
              rw [t2 j1 j2]; rfl
          · exact ⟨0, rfl, rfl, .cons rfl (.cons rfl (.cons (by show _ = U.lst .own 3 (trisU (List.filter (okD b) (part b 2 0 zeroTri j1 ++ part b 1 1 (setT zeroTri 0 (p0.a + j1)) j2 ++ []))); rw [List.append_nil]; rfl) (.cons rfl (.cons rfl (.cons (by show U.int .i64 _ = .int .i64 (_ + ((0 : Nat) : Int)); simp) (.nil rfl))))))⟩
        · refine k_exit ?_
          have x2 : j2 = widT b 1 := by have := of_decide_eq_false h2; unfold widT at hk2 ⊢; omega
          subst x2
          refine k_region ?_
          refine o_move rfl ?_
          refine o_add rfl rfl rfl (by unfold I64; omega) ?_
          refine o_assign rfl ?_
          refine o_nil ?_
          refine ⟨k1 - 1, by omega, j1 + 1, by omega, rfl, .cons rfl (.cons rfl (.cons ?_ (.cons (congrArg (U.int .i64) (by omega)) (.nil rfl))))⟩
          rw [t1 j1]; rfl
      · exact ⟨0, rfl, rfl, .cons rfl (.cons rfl (.cons (by show _ = U.lst .own 3 (trisU (List.filter (okD b) (part b 2 0 zeroTri j1 ++ []))); rw [List.append_nil]; rfl) (.cons rfl (.cons (by show U.int .i64 _ = .int .i64 (_ + ((0 : Nat) : Int)); simp) (.nil rfl)))))⟩
    · refine k_exit ?_
      refine k_seq (k_region ?_)
      refine o_move rfl ?_
      refine o_assign rfl ?_
      refine o_nil ?_
      refine k_ret ?_
      refine ⟨.inr rfl, _, .cons _ _ _ _ (.tmp 4) .nil, ?_⟩
      have x1 : j1 = widT b 0 := by have := of_decide_eq_false h1; unfold widT at hk1 ⊢; omega
      subst x1
      exact .ro _ _ _
  · exact ⟨0, rfl, rfl, .cons rfl (.cons rfl (.cons (by rfl) (.cons (by show U.int .i64 _ = .int .i64 (_ + ((0 : Nat) : Int)); simp) (.nil rfl))))⟩

def ck1 (b : Bk) : Bool := ((((((decide (1 ≤ ((trisU b.lots).length : Int)) && decide (((trisU b.lots).length : Int) ≤ 4)) && (decide (0 ≤ b.tlo) && (decide (b.tlo ≤ b.thi) && decide (b.thi ≤ 1000)))) && (decide (1 ≤ b.thick) && decide (b.thick ≤ 3000))) && (decide (0 ≤ b.crack) && decide (b.crack ≤ 3000))) && (decide (0 ≤ b.glo) && (decide (b.glo ≤ b.ghi) && decide (b.ghi ≤ 3000)))) && decide (((twosU b.thins).length : Int) = 3))
def ck2 (b : Bk) : Bool := (((((ck1 b && (decide (0 ≤ b.hot) && decide (b.hot ≤ 1500))) && (decide (0 ≤ b.least) && decide (b.least ≤ b.hot))) && (decide (1 ≤ b.clo) && (decide (b.clo ≤ b.chi) && decide (b.chi ≤ 300)))) && (decide (0 ≤ b.coal) && decide (b.coal ≤ 100))) && decide (((trisU b.looks).length : Int) ≤ 8))
def gl1 (q : Tri) : Bool := (decide (0 ≤ q.a) && decide (q.a ≤ 6)) && (decide (0 ≤ q.b) && (decide (q.b ≤ q.c) && decide (q.c ≤ 1000)))
def gl2 (q : Two) : Bool := (decide (1 ≤ q.a) && (decide (q.a ≤ q.b) && decide (q.b ≤ 20)))
def gl3 (q : Tri) : Bool := ((decide (0 ≤ q.a) && decide (q.a ≤ 300)) && (decide (0 ≤ q.b) && decide (q.b ≤ 3000))) && (decide (0 ≤ q.c) && decide (q.c ≤ 50))

theorem all_one {α : Type} (p : α → Bool) {l : List α} {n : Nat} {x : α} (h : l[n]? = some x) : (l.take (n + 1)).all p = ((l.take n).all p && p x) := by
  rw [List.take_add_one, List.all_append, h]; simp
theorem all_oneC {α : Type} (p : α → Bool) {l : List α} {n : Nat} {x : α} {c : Bool} (h : l[n]? = some x) : (c && (l.take (n + 1)).all p) = ((c && (l.take n).all p) && p x) := by
  rw [all_one p h, Bool.and_assoc]
theorem all_pre {α : Type} {p : α → Bool} {l : List α} {n : Nat} {c : Bool} (h : (c && (l.take n).all p) = false) : (c && l.all p) = false := by
  rw [← List.take_append_drop n l, List.all_append, ← Bool.and_assoc, h]; rfl
theorem ck2_len {b : Bk} (h : ck2 b = true) : b.lots.length ≤ 4 ∧ b.thins.length = 3 ∧ b.looks.length ≤ 8 := by
  unfold ck2 ck1 at h
  simp only [Bool.and_eq_true, decide_eq_true_eq, List.length_map] at h
  omega
theorem ck_valid (b : Bk) : (((ck2 b && b.lots.all gl1) && b.thins.all gl2) && b.looks.all gl3) = valid b := by
  rw [Bool.eq_iff_iff]
  unfold ck2 ck1 gl1 gl2 gl3
  simp only [Bool.and_eq_true, decide_eq_true_eq, List.all_eq_true, List.length_map]
  constructor
  · rintro ⟨⟨⟨h, h1⟩, h2⟩, h3⟩
    refine ok_valid ⟨⟨by omega, by omega, by omega, by omega, by omega, by omega, by omega, by omega, by omega, by omega, by omega⟩, fun q hq => ?_, fun q hq => ?_, fun q hq => ?_⟩
    · have := h1 q hq; omega
    · have := h2 q hq; omega
    · have := h3 q hq; omega
  · intro h
    have hk := valid_ok h
    have a1 := hk.nl; have a2 := hk.nt; have a3 := hk.nk; have a4 := hk.tin; have a5 := hk.thick; have a6 := hk.crack; have a7 := hk.goal; have a8 := hk.hot; have a9 := hk.least; have a10 := hk.cool; have a11 := hk.coal
    refine ⟨⟨⟨by omega, fun q hq => ?_⟩, fun q hq => ?_⟩, fun q hq => ?_⟩
    · have := hk.lots q hq; omega
    · have := hk.thins q hq; omega
    · have := hk.looks q hq; omega

-- 45 saron/saronref02.Check params [28] pure True
noncomputable def b45 : Code := (Tryz.f45.body).getD .skip
theorem body45 : bodyOf Tryz.prog 45 = some (139, b45, [.tmp 2]) := by kernel_rfl
theorem pure45 : pureFn Tryz.prog 45 = true := by kernel_rfl
set_option maxHeartbeats 4000000 in
theorem ret45 (hi : Off is) (b : Bk) : RetP Tryz.prog is orc 45 [b.u] (.int .i64 (checkR b)) := by
  refine ret_of body45 pure45 (hi 45 (by decide)) rfl rfl (dat_l1 (dat_bk b 5)) (.inl (.int _ _ _)) ?_
  refine k_seq (k_region ?_)
  refine o_box rfl rfl ?_
  refine o_assign rfl ?_
  refine o_nil ?_
  refine k_cut (fun s => s.st = [.box b.cs] ∧ Holds s [(1, .box 0 0), (3, .bool (ck1 b))]) ?_ (fun s hM => ?_)
  · refine k_region ?_
    refine o_faddr rfl rfl fld28_0 ?_
    refine o_load1 rfl rfl rfl sh22 rfl ?_
    refine o_len rfl ty22 rfl rfl ?_
    refine o_call rfl (ret28 hi _ _ _) (.lrefl _) ?_
    refine o_move rfl ?_
    refine o_guard rfl rfl rfl rfl (fun h1 => ?_) (fun h1 => ?_)
    · refine o_faddr rfl rfl fld28_1 ?_
      refine o_gD rfl rfl rfl rfl h1 ?_
      refine o_loadN rfl rfl rfl sh24 rfl ?_
      refine o_gD rfl rfl rfl rfl h1 ?_
      refine o_call rfl (ret59 hi _ _ _ _) (.lrefl _) ?_
      refine o_pickT rfl rfl h1 ?_
      refine o_move rfl ?_
      refine o_guard rfl rfl rfl rfl (fun h2 => ?_) (fun h2 => ?_)
      · refine o_faddr rfl rfl fld28_2 ?_
        refine o_gD rfl rfl rfl rfl h2 ?_
        refine o_load1 rfl rfl rfl sh3 rfl ?_
        refine o_gD rfl rfl rfl rfl h2 ?_
        refine o_call rfl (ret28 hi _ _ _) (.lrefl _) ?_
        refine o_pickT rfl rfl h2 ?_
        refine o_move rfl ?_
        refine o_guard rfl rfl rfl rfl (fun h3 => ?_) (fun h3 => ?_)
        · refine o_faddr rfl rfl fld28_3 ?_
          refine o_gD rfl rfl rfl rfl h3 ?_
          refine o_load1 rfl rfl rfl sh3 rfl ?_
          refine o_gD rfl rfl rfl rfl h3 ?_
          refine o_call rfl (ret28 hi _ _ _) (.lrefl _) ?_
          refine o_pickT rfl rfl h3 ?_
          refine o_move rfl ?_
          refine o_guard rfl rfl rfl rfl (fun h4 => ?_) (fun h4 => ?_)
          · refine o_faddr rfl rfl fld28_4 ?_
            refine o_gD rfl rfl rfl rfl h4 ?_
            refine o_loadN rfl rfl rfl sh24 rfl ?_
            refine o_gD rfl rfl rfl rfl h4 ?_
            refine o_call rfl (ret59 hi _ _ _ _) (.lrefl _) ?_
            refine o_pickT rfl rfl h4 ?_
            refine o_move rfl ?_
            refine o_guard rfl rfl rfl rfl (fun h5 => ?_) (fun h5 => ?_)
            · refine o_faddr rfl rfl fld28_5 ?_
              refine o_gD rfl rfl rfl rfl h5 ?_
              refine o_load1 rfl rfl rfl sh25 rfl ?_
              refine o_gD rfl rfl rfl rfl h5 ?_
              refine o_len rfl ty25 rfl rfl ?_
              refine o_gD rfl rfl rfl rfl h5 ?_
              refine o_eql rfl rfl rfl ?_
              refine o_pickT rfl rfl h5 ?_
              refine o_assign rfl ?_
              refine o_nil ?_
              exact ⟨rfl, rfl, .cons rfl (.cons (congrArg U.bool (by unfold ck1; simp only [h1, h2, h3, h4, h5, Bool.true_and, Bool.and_true, Bool.false_and, Bool.and_false, Bool.not_true])) (.nil rfl))⟩
            · refine o_gS rfl rfl rfl rfl h5 ?_
              refine o_gS rfl rfl rfl rfl h5 ?_
              refine o_gS rfl rfl rfl rfl h5 ?_
              refine o_pickF rfl rfl h5 ?_
              refine o_assign rfl ?_
              refine o_nil ?_
              exact ⟨rfl, rfl, .cons rfl (.cons (congrArg U.bool (by unfold ck1; simp only [h1, h2, h3, h4, h5, Bool.true_and, Bool.and_true, Bool.false_and, Bool.and_false, Bool.not_true])) (.nil rfl))⟩
          · refine o_gS rfl rfl rfl rfl h4 ?_
            refine o_gS rfl rfl rfl rfl h4 ?_
            refine o_pickF rfl rfl h4 ?_
            refine o_move rfl ?_
            refine o_gS rfl rfl rfl rfl rfl ?_
            refine o_gS rfl rfl rfl rfl rfl ?_
            refine o_gS rfl rfl rfl rfl rfl ?_
            refine o_gS rfl rfl rfl rfl rfl ?_
            refine o_pickF rfl rfl rfl ?_
            refine o_assign rfl ?_
            refine o_nil ?_
            exact ⟨rfl, rfl, .cons rfl (.cons (congrArg U.bool (by unfold ck1; simp only [h1, h2, h3, h4, Bool.true_and, Bool.and_true, Bool.false_and, Bool.and_false, Bool.not_true])) (.nil rfl))⟩
        · refine o_gS rfl rfl rfl rfl h3 ?_
          refine o_gS rfl rfl rfl rfl h3 ?_
          refine o_pickF rfl rfl h3 ?_
          refine o_move rfl ?_
          refine o_gS rfl rfl rfl rfl rfl ?_
          refine o_gS rfl rfl rfl rfl rfl ?_
          refine o_gS rfl rfl rfl rfl rfl ?_
          refine o_pickF rfl rfl rfl ?_
          refine o_move rfl ?_
          refine o_gS rfl rfl rfl rfl rfl ?_
          refine o_gS rfl rfl rfl rfl rfl ?_
          refine o_gS rfl rfl rfl rfl rfl ?_
          refine o_gS rfl rfl rfl rfl rfl ?_
          refine o_pickF rfl rfl rfl ?_
          refine o_assign rfl ?_
          refine o_nil ?_
          exact ⟨rfl, rfl, .cons rfl (.cons (congrArg U.bool (by unfold ck1; simp only [h1, h2, h3, Bool.true_and, Bool.and_true, Bool.false_and, Bool.and_false, Bool.not_true])) (.nil rfl))⟩
      · refine o_gS rfl rfl rfl rfl h2 ?_
        refine o_gS rfl rfl rfl rfl h2 ?_
        refine o_pickF rfl rfl h2 ?_
        refine o_move rfl ?_
        refine o_gS rfl rfl rfl rfl rfl ?_
        refine o_gS rfl rfl rfl rfl rfl ?_
        refine o_gS rfl rfl rfl rfl rfl ?_
        refine o_pickF rfl rfl rfl ?_
        refine o_move rfl ?_
        refine o_gS rfl rfl rfl rfl rfl ?_
        refine o_gS rfl rfl rfl rfl rfl ?_
        refine o_gS rfl rfl rfl rfl rfl ?_
        refine o_pickF rfl rfl rfl ?_
        refine o_move rfl ?_
        refine o_gS rfl rfl rfl rfl rfl ?_
        refine o_gS rfl rfl rfl rfl rfl ?_
        refine o_gS rfl rfl rfl rfl rfl ?_
        refine o_gS rfl rfl rfl rfl rfl ?_
        refine o_pickF rfl rfl rfl ?_
        refine o_assign rfl ?_
        refine o_nil ?_
        exact ⟨rfl, rfl, .cons rfl (.cons (congrArg U.bool (by unfold ck1; simp only [h1, h2, Bool.true_and, Bool.and_true, Bool.false_and, Bool.and_false, Bool.not_true])) (.nil rfl))⟩
    · refine o_gS rfl rfl rfl rfl h1 ?_
      refine o_gS rfl rfl rfl rfl h1 ?_
      refine o_pickF rfl rfl h1 ?_
      refine o_move rfl ?_
      refine o_gS rfl rfl rfl rfl rfl ?_
      refine o_gS rfl rfl rfl rfl rfl ?_
      refine o_gS rfl rfl rfl rfl rfl ?_
      refine o_pickF rfl rfl rfl ?_
      refine o_move rfl ?_
      refine o_gS rfl rfl rfl rfl rfl ?_
      refine o_gS rfl rfl rfl rfl rfl ?_
      refine o_gS rfl rfl rfl rfl rfl ?_
      refine o_pickF rfl rfl rfl ?_
      refine o_move rfl ?_
      refine o_gS rfl rfl rfl rfl rfl ?_
      refine o_gS rfl rfl rfl rfl rfl ?_
      refine o_gS rfl rfl rfl rfl rfl ?_
      refine o_pickF rfl rfl rfl ?_
      refine o_move rfl ?_
      refine o_gS rfl rfl rfl rfl rfl ?_
      refine o_gS rfl rfl rfl rfl rfl ?_
      refine o_gS rfl rfl rfl rfl rfl ?_
      refine o_gS rfl rfl rfl rfl rfl ?_
      refine o_pickF rfl rfl rfl ?_
      refine o_assign rfl ?_
      refine o_nil ?_
      exact ⟨rfl, rfl, .cons rfl (.cons (congrArg U.bool (by unfold ck1; simp only [h1, Bool.true_and, Bool.and_true, Bool.false_and, Bool.and_false, Bool.not_true])) (.nil rfl))⟩
  · obtain ⟨hst, hs⟩ := hM
    refine k_gen _ _ hs hst fun fr => ?_
    refine k_cut (fun s => s.st = [.box b.cs] ∧ Holds s [(1, .box 0 0), (3, .bool (ck2 b))]) ?_ (fun s hM => ?_)
    · refine k_region ?_
      refine o_move rfl ?_
      refine o_move rfl ?_
      refine o_guard rfl rfl rfl rfl (fun h6 => ?_) (fun h6 => ?_)
      · refine o_faddr rfl rfl fld28_6 ?_
        refine o_gD rfl rfl rfl rfl h6 ?_
        refine o_load1 rfl rfl rfl sh3 rfl ?_
        refine o_gD rfl rfl rfl rfl h6 ?_
        refine o_call rfl (ret28 hi _ _ _) (.lrefl _) ?_
        refine o_pickT rfl rfl h6 ?_
        refine o_move rfl ?_
        refine o_guard rfl rfl rfl rfl (fun h7 => ?_) (fun h7 => ?_)
        · refine o_faddr rfl rfl fld28_7 ?_
          refine o_gD rfl rfl rfl rfl h7 ?_
          refine o_load1 rfl rfl rfl sh3 rfl ?_
          refine o_gD rfl rfl rfl rfl h7 ?_
          refine o_faddr rfl rfl fld28_6 ?_
          refine o_gD rfl rfl rfl rfl h7 ?_
          refine o_load1 rfl rfl rfl sh3 rfl ?_
          refine o_gD rfl rfl rfl rfl h7 ?_
          refine o_call rfl (ret28 hi _ _ _) (.lrefl _) ?_
          refine o_pickT rfl rfl h7 ?_
          refine o_move rfl ?_
          refine o_guard rfl rfl rfl rfl (fun h8 => ?_) (fun h8 => ?_)
          · refine o_faddr rfl rfl fld28_8 ?_
            refine o_gD rfl rfl rfl rfl h8 ?_
            refine o_loadN rfl rfl rfl sh24 rfl ?_
            refine o_gD rfl rfl rfl rfl h8 ?_
            refine o_call rfl (ret59 hi _ _ _ _) (.lrefl _) ?_
            refine o_pickT rfl rfl h8 ?_
            refine o_move rfl ?_
            refine o_guard rfl rfl rfl rfl (fun h9 => ?_) (fun h9 => ?_)
            · refine o_faddr rfl rfl fld28_9 ?_
              refine o_gD rfl rfl rfl rfl h9 ?_
              refine o_load1 rfl rfl rfl sh3 rfl ?_
              refine o_gD rfl rfl rfl rfl h9 ?_
              refine o_call rfl (ret28 hi _ _ _) (.lrefl _) ?_
              refine o_pickT rfl rfl h9 ?_
              refine o_move rfl ?_
              refine o_guard rfl rfl rfl rfl (fun h10 => ?_) (fun h10 => ?_)
              · refine o_faddr rfl rfl fld28_10 ?_
                refine o_gD rfl rfl rfl rfl h10 ?_
                refine o_load1 rfl rfl rfl sh26 rfl ?_
                refine o_gD rfl rfl rfl rfl h10 ?_
                refine o_len rfl ty26 rfl rfl ?_
                refine o_gD rfl rfl rfl rfl h10 ?_
                refine o_leq rfl rfl rfl ?_
                refine o_pickT rfl rfl h10 ?_
                refine o_assign rfl ?_
                refine o_nil ?_
                exact ⟨rfl, rfl, .cons rfl (.cons (congrArg U.bool (by unfold ck2; simp only [h6, h7, h8, h9, h10, Bool.true_and, Bool.and_true, Bool.false_and, Bool.and_false, Bool.not_true])) (.nil rfl))⟩
              · refine o_gS rfl rfl rfl rfl h10 ?_
                refine o_gS rfl rfl rfl rfl h10 ?_
                refine o_gS rfl rfl rfl rfl h10 ?_
                refine o_pickF rfl rfl h10 ?_
                refine o_assign rfl ?_
                refine o_nil ?_
                exact ⟨rfl, rfl, .cons rfl (.cons (congrArg U.bool (by unfold ck2; simp only [h6, h7, h8, h9, h10, Bool.true_and, Bool.and_true, Bool.false_and, Bool.and_false, Bool.not_true])) (.nil rfl))⟩
            · refine o_gS rfl rfl rfl rfl h9 ?_
              refine o_gS rfl rfl rfl rfl h9 ?_
              refine o_pickF rfl rfl h9 ?_
              refine o_move rfl ?_
              refine o_gS rfl rfl rfl rfl rfl ?_
              refine o_gS rfl rfl rfl rfl rfl ?_
              refine o_gS rfl rfl rfl rfl rfl ?_
              refine o_gS rfl rfl rfl rfl rfl ?_
              refine o_pickF rfl rfl rfl ?_
              refine o_assign rfl ?_
              refine o_nil ?_
              exact ⟨rfl, rfl, .cons rfl (.cons (congrArg U.bool (by unfold ck2; simp only [h6, h7, h8, h9, Bool.true_and, Bool.and_true, Bool.false_and, Bool.and_false, Bool.not_true])) (.nil rfl))⟩
          · refine o_gS rfl rfl rfl rfl h8 ?_
            refine o_gS rfl rfl rfl rfl h8 ?_
            refine o_pickF rfl rfl h8 ?_
            refine o_move rfl ?_
            refine o_gS rfl rfl rfl rfl rfl ?_
            refine o_gS rfl rfl rfl rfl rfl ?_
            refine o_gS rfl rfl rfl rfl rfl ?_
            refine o_pickF rfl rfl rfl ?_
            refine o_move rfl ?_
            refine o_gS rfl rfl rfl rfl rfl ?_
            refine o_gS rfl rfl rfl rfl rfl ?_
            refine o_gS rfl rfl rfl rfl rfl ?_
            refine o_gS rfl rfl rfl rfl rfl ?_
            refine o_pickF rfl rfl rfl ?_
            refine o_assign rfl ?_
            refine o_nil ?_
            exact ⟨rfl, rfl, .cons rfl (.cons (congrArg U.bool (by unfold ck2; simp only [h6, h7, h8, Bool.true_and, Bool.and_true, Bool.false_and, Bool.and_false, Bool.not_true])) (.nil rfl))⟩
        · refine o_gS rfl rfl rfl rfl h7 ?_
          refine o_gS rfl rfl rfl rfl h7 ?_
          refine o_gS rfl rfl rfl rfl h7 ?_
          refine o_gS rfl rfl rfl rfl h7 ?_
          refine o_pickF rfl rfl h7 ?_
          refine o_move rfl ?_
          refine o_gS rfl rfl rfl rfl rfl ?_
          refine o_gS rfl rfl rfl rfl rfl ?_
          refine o_gS rfl rfl rfl rfl rfl ?_
          refine o_pickF rfl rfl rfl ?_
          refine o_move rfl ?_
          refine o_gS rfl rfl rfl rfl rfl ?_
          refine o_gS rfl rfl rfl rfl rfl ?_
          refine o_gS rfl rfl rfl rfl rfl ?_
          refine o_pickF rfl rfl rfl ?_
          refine o_move rfl ?_
          refine o_gS rfl rfl rfl rfl rfl ?_
          refine o_gS rfl rfl rfl rfl rfl ?_
          refine o_gS rfl rfl rfl rfl rfl ?_
          refine o_gS rfl rfl rfl rfl rfl ?_
          refine o_pickF rfl rfl rfl ?_
          refine o_assign rfl ?_
          refine o_nil ?_
          exact ⟨rfl, rfl, .cons rfl (.cons (congrArg U.bool (by unfold ck2; simp only [h6, h7, Bool.true_and, Bool.and_true, Bool.false_and, Bool.and_false, Bool.not_true])) (.nil rfl))⟩
      · refine o_gS rfl rfl rfl rfl h6 ?_
        refine o_gS rfl rfl rfl rfl h6 ?_
        refine o_pickF rfl rfl h6 ?_
        refine o_move rfl ?_
        refine o_gS rfl rfl rfl rfl rfl ?_
        refine o_gS rfl rfl rfl rfl rfl ?_
        refine o_gS rfl rfl rfl rfl rfl ?_
        refine o_gS rfl rfl rfl rfl rfl ?_
        refine o_gS rfl rfl rfl rfl rfl ?_
        refine o_pickF rfl rfl rfl ?_
        refine o_move rfl ?_
        refine o_gS rfl rfl rfl rfl rfl ?_
        refine o_gS rfl rfl rfl rfl rfl ?_
        refine o_gS rfl rfl rfl rfl rfl ?_
        refine o_pickF rfl rfl rfl ?_
        refine o_move rfl ?_
        refine o_gS rfl rfl rfl rfl rfl ?_
        refine o_gS rfl rfl rfl rfl rfl ?_
        refine o_gS rfl rfl rfl rfl rfl ?_
        refine o_pickF rfl rfl rfl ?_
        refine o_move rfl ?_
        refine o_gS rfl rfl rfl rfl rfl ?_
        refine o_gS rfl rfl rfl rfl rfl ?_
        refine o_gS rfl rfl rfl rfl rfl ?_
        refine o_gS rfl rfl rfl rfl rfl ?_
        refine o_pickF rfl rfl rfl ?_
        refine o_assign rfl ?_
        refine o_nil ?_
        exact ⟨rfl, rfl, .cons rfl (.cons (congrArg U.bool (by unfold ck2; simp only [h6, Bool.true_and, Bool.and_true, Bool.false_and, Bool.and_false, Bool.not_true])) (.nil rfl))⟩
    · obtain ⟨hst, hs⟩ := hM
      refine k_gen _ _ hs hst fun fr => ?_
      refine k_cut (fun s => s.st = [.box b.cs] ∧ Holds s [(1, .box 0 0), (3, .bool (ck2 b && b.lots.all gl1))]) ?_ (fun s hM => ?_)
      · refine k_seq (k_region ?_)
        refine o_assign rfl ?_
        refine o_nil ?_
        refine k_block ?_

        refine k_loop (fun k s => ∃ n : Nat, k + n = b.lots.length ∧ s.st = [.box b.cs] ∧ Holds s [(1, .box 0 0), (3, .bool (ck2 b && (b.lots.take n).all gl1)), (4, .int .i64 n)]) (fun k s hI => ?_) b.lots.length _ ?_
        · obtain ⟨n, hk, hst, hs⟩ := hI
          refine k_gen _ _ hs hst fun fr => ?_
          refine k_seq ?_
          refine k_seq (k_region ?_)
          refine o_move rfl ?_
          refine o_move rfl ?_
          refine o_guard rfl rfl rfl rfl (fun h11 => ?_) (fun h11 => ?_)
          · refine o_move rfl ?_
            refine o_gD rfl rfl rfl rfl h11 ?_
            refine o_faddr rfl rfl fld28_0 ?_
            refine o_gD rfl rfl rfl rfl h11 ?_
            refine o_load1 rfl rfl rfl sh22 rfl ?_
            refine o_gD rfl rfl rfl rfl h11 ?_
            refine o_len rfl ty22 rfl rfl ?_
            refine o_gD rfl rfl rfl rfl h11 ?_
            refine o_lss rfl rfl rfl ?_
            refine o_pickT rfl rfl h11 ?_
            refine o_nil ?_
            refine k_cond rfl (fun h12 => ?_) (fun h12 => ?_)
            · have h3' : n < b.lots.length := by
                have := of_decide_eq_true h12
                simp at this; omega
              obtain ⟨q, hq⟩ : ∃ q, b.lots[n]? = some q := ⟨b.lots[n], List.getElem?_eq_getElem h3'⟩
              have hlen := ck2_len (by have := h11; simp only [Bool.and_eq_true] at this; exact this.1)
              refine k_skip ?_
              refine k_seq ?_
              refine k_block ?_
              refine k_region ?_
              refine o_faddr rfl rfl fld28_0 ?_
              refine o_load1 rfl rfl rfl sh22 rfl ?_
              refine o_move rfl ?_
              refine o_idx (u := q.u) rfl ty22 rfl rfl (Int.natCast_nonneg n) (by simp [hq]) cl91 ?_
              refine o_faddrR rfl rfl fld91_0 ?_
              refine o_loadR1 rfl rfl sh3 rfl ?_
              refine o_call rfl (ret28 hi _ _ _) (.lrefl _) ?_
              refine o_move rfl ?_
              refine o_guard rfl rfl rfl rfl (fun h13 => ?_) (fun h13 => ?_)
              · refine o_faddr rfl rfl fld28_0 ?_
                refine o_gD rfl rfl rfl rfl h13 ?_
                refine o_load1 rfl rfl rfl sh22 rfl ?_
                refine o_gD rfl rfl rfl rfl h13 ?_
                refine o_move rfl ?_
                refine o_gD rfl rfl rfl rfl h13 ?_
                refine o_idx (u := q.u) rfl ty22 rfl rfl (Int.natCast_nonneg n) (by simp [hq]) cl91 ?_
                refine o_gD rfl rfl rfl rfl h13 ?_
                refine o_faddrR rfl rfl fld91_1 ?_
                refine o_gD rfl rfl rfl rfl h13 ?_
                refine o_loadRN rfl rfl sh24 rfl ?_
                refine o_gD rfl rfl rfl rfl h13 ?_
                refine o_call rfl (ret59 hi _ _ _ _) (.lrefl _) ?_
                refine o_pickT rfl rfl h13 ?_
                refine o_assign rfl ?_
                refine o_nil ?_
                refine k_region ?_
                refine o_move rfl ?_
                refine o_add rfl rfl rfl (by unfold I64; omega) ?_
                refine o_assign rfl ?_
                refine o_nil ?_
                exact ⟨k - 1, by omega, n + 1, by omega, rfl, .cons rfl (.cons (congrArg U.bool (by rw [all_oneC gl1 hq, h11]; unfold gl1; simp only [h13, Bool.true_and, Bool.false_and, Bool.and_false, Bool.not_true])) (.cons rfl (.nil rfl)))⟩
              · refine o_gS rfl rfl rfl rfl h13 ?_
                refine o_gS rfl rfl rfl rfl h13 ?_
                refine o_gS rfl rfl rfl rfl h13 ?_
                refine o_gS rfl rfl rfl rfl h13 ?_
                refine o_gS rfl rfl rfl rfl h13 ?_
                refine o_gS rfl rfl rfl rfl h13 ?_
                refine o_pickF rfl rfl h13 ?_
                refine o_assign rfl ?_
                refine o_nil ?_
                refine k_region ?_
                refine o_move rfl ?_
                refine o_add rfl rfl rfl (by unfold I64; omega) ?_
                refine o_assign rfl ?_
                refine o_nil ?_
                exact ⟨k - 1, by omega, n + 1, by omega, rfl, .cons rfl (.cons (congrArg U.bool (by rw [all_oneC gl1 hq, h11]; unfold gl1; simp only [h13, Bool.true_and, Bool.false_and, Bool.and_false, Bool.not_true])) (.cons rfl (.nil rfl)))⟩
            · refine k_exit ?_
              exact ⟨rfl, rfl, .cons rfl (.cons (congrArg U.bool (by first | (rw [show n = b.lots.length by have := of_decide_eq_false h12; simp at this; omega, List.take_length]) | (rw [h11, all_pre h11]; rfl))) (.nil rfl))⟩
          · refine o_gS rfl rfl rfl rfl h11 ?_
            refine o_gS rfl rfl rfl rfl h11 ?_
            refine o_gS rfl rfl rfl rfl h11 ?_
            refine o_gS rfl rfl rfl rfl h11 ?_
            refine o_pickF rfl rfl h11 ?_
            refine o_nil ?_
            refine k_cond rfl (fun h => by cases h) (fun _ => ?_)
            refine k_exit ?_
            exact ⟨rfl, rfl, .cons rfl (.cons (congrArg U.bool (by first | (rw [show n = b.lots.length by have := of_decide_eq_false h11; simp at this; omega, List.take_length]) | (rw [h11, all_pre h11]; rfl))) (.nil rfl))⟩
        · exact ⟨0, rfl, rfl, .cons rfl (.cons (congrArg U.bool (Bool.and_true _).symm) (.cons rfl (.nil rfl)))⟩
      · obtain ⟨hst, hs⟩ := hM
        refine k_gen _ _ hs hst fun fr => ?_
        refine k_cut (fun s => s.st = [.box b.cs] ∧ Holds s [(1, .box 0 0), (3, .bool ((ck2 b && b.lots.all gl1) && b.thins.all gl2))]) ?_ (fun s hM => ?_)
        · refine k_seq (k_region ?_)
          refine o_assign rfl ?_
          refine o_nil ?_
          refine k_block ?_

          refine k_loop (fun k s => ∃ n : Nat, k + n = b.thins.length ∧ s.st = [.box b.cs] ∧ Holds s [(1, .box 0 0), (3, .bool ((ck2 b && b.lots.all gl1) && (b.thins.take n).all gl2)), (5, .int .i64 n)]) (fun k s hI => ?_) b.thins.length _ ?_
          · obtain ⟨n, hk, hst, hs⟩ := hI
            refine k_gen _ _ hs hst fun fr => ?_
            refine k_seq ?_
            refine k_seq (k_region ?_)
            refine o_move rfl ?_
            refine o_move rfl ?_
            refine o_guard rfl rfl rfl rfl (fun h14 => ?_) (fun h14 => ?_)
            · refine o_move rfl ?_
              refine o_gD rfl rfl rfl rfl h14 ?_
              refine o_faddr rfl rfl fld28_5 ?_
              refine o_gD rfl rfl rfl rfl h14 ?_
              refine o_load1 rfl rfl rfl sh25 rfl ?_
              refine o_gD rfl rfl rfl rfl h14 ?_
              refine o_len rfl ty25 rfl rfl ?_
              refine o_gD rfl rfl rfl rfl h14 ?_
              refine o_lss rfl rfl rfl ?_
              refine o_pickT rfl rfl h14 ?_
              refine o_nil ?_
              refine k_cond rfl (fun h15 => ?_) (fun h15 => ?_)
              · have h3' : n < b.thins.length := by
                  have := of_decide_eq_true h15
                  simp at this; omega
                obtain ⟨q, hq⟩ : ∃ q, b.thins[n]? = some q := ⟨b.thins[n], List.getElem?_eq_getElem h3'⟩
                have hlen := ck2_len (by have := h14; simp only [Bool.and_eq_true] at this; exact this.1.1)
                refine k_skip ?_
                refine k_seq ?_
                refine k_block ?_
                refine k_region ?_
                refine o_faddr rfl rfl fld28_5 ?_
                refine o_load1 rfl rfl rfl sh25 rfl ?_
                refine o_move rfl ?_
                refine o_idx (u := q.u) rfl ty25 rfl rfl (Int.natCast_nonneg n) (by simp [hq]) cl24 ?_
                refine o_loadRN rfl rfl sh24 rfl ?_
                refine o_call rfl (ret59 hi _ _ _ _) (.lrefl _) ?_
                refine o_assign rfl ?_
                refine o_nil ?_
                refine k_region ?_
                refine o_move rfl ?_
                refine o_add rfl rfl rfl (by unfold I64; omega) ?_
                refine o_assign rfl ?_
                refine o_nil ?_
                exact ⟨k - 1, by omega, n + 1, by omega, rfl, .cons rfl (.cons (congrArg U.bool (by rw [all_oneC gl2 hq, h14]; unfold gl2; simp only [Bool.true_and, Bool.false_and, Bool.and_false, Bool.not_true])) (.cons rfl (.nil rfl)))⟩
              · refine k_exit ?_
                exact ⟨rfl, rfl, .cons rfl (.cons (congrArg U.bool (by first | (rw [show n = b.thins.length by have := of_decide_eq_false h15; simp at this; omega, List.take_length]) | (rw [h14, all_pre h14]; rfl))) (.nil rfl))⟩
            · refine o_gS rfl rfl rfl rfl h14 ?_
              refine o_gS rfl rfl rfl rfl h14 ?_
              refine o_gS rfl rfl rfl rfl h14 ?_
              refine o_gS rfl rfl rfl rfl h14 ?_
              refine o_pickF rfl rfl h14 ?_
              refine o_nil ?_
              refine k_cond rfl (fun h => by cases h) (fun _ => ?_)
              refine k_exit ?_
              exact ⟨rfl, rfl, .cons rfl (.cons (congrArg U.bool (by first | (rw [show n = b.thins.length by have := of_decide_eq_false h14; simp at this; omega, List.take_length]) | (rw [h14, all_pre h14]; rfl))) (.nil rfl))⟩
          · exact ⟨0, rfl, rfl, .cons rfl (.cons (congrArg U.bool (Bool.and_true _).symm) (.cons rfl (.nil rfl)))⟩
        · obtain ⟨hst, hs⟩ := hM
          refine k_gen _ _ hs hst fun fr => ?_
          refine k_cut (fun s => Holds s [(3, .bool (((ck2 b && b.lots.all gl1) && b.thins.all gl2) && b.looks.all gl3))]) ?_ (fun s hM => ?_)
          · refine k_seq (k_region ?_)
            refine o_assign rfl ?_
            refine o_nil ?_
            refine k_block ?_

            refine k_loop (fun k s => ∃ (n : Nat) (e : List SB), k + n = b.looks.length ∧ s.st = [.box b.cs] ++ e ∧ Holds s [(1, .box 0 0), (3, .bool (((ck2 b && b.lots.all gl1) && b.thins.all gl2) && (b.looks.take n).all gl3)), (6, .int .i64 n)]) (fun k s hI => ?_) b.looks.length _ ?_
            · obtain ⟨n, e, hk, hst, hs⟩ := hI
              generalize hY : [SB.box b.cs] ++ e = Y at hst
              have hY0 : Y[0]? = some (.box b.cs) := by rw [← hY]; rfl
              refine k_gen _ _ hs hst fun fr => ?_
              refine k_seq ?_
              refine k_seq (k_region ?_)
              refine o_move rfl ?_
              refine o_move rfl ?_
              refine o_guard rfl rfl rfl rfl (fun h16 => ?_) (fun h16 => ?_)
              · refine o_move rfl ?_
                refine o_gD rfl rfl rfl rfl h16 ?_
                refine o_faddr rfl rfl fld28_10 ?_
                refine o_gD rfl rfl rfl rfl h16 ?_
                refine o_load1 rfl rfl hY0 sh26 rfl ?_
                refine o_gD rfl rfl rfl rfl h16 ?_
                refine o_len rfl ty26 rfl rfl ?_
                refine o_gD rfl rfl rfl rfl h16 ?_
                refine o_lss rfl rfl rfl ?_
                refine o_pickT rfl rfl h16 ?_
                refine o_nil ?_
                refine k_cond rfl (fun h17 => ?_) (fun h17 => ?_)
                · have h3' : n < b.looks.length := by
                    have := of_decide_eq_true h17
                    simp at this; omega
                  obtain ⟨q, hq⟩ : ∃ q, b.looks[n]? = some q := ⟨b.looks[n], List.getElem?_eq_getElem h3'⟩
                  have hlen := ck2_len (by have := h16; simp only [Bool.and_eq_true] at this; exact this.1.1.1)
                  refine k_skip ?_
                  refine k_seq ?_
                  refine k_block ?_
                  refine k_seq (k_region ?_)
                  refine o_faddr rfl rfl fld28_10 ?_
                  refine o_load1 rfl rfl hY0 sh26 rfl ?_
                  refine o_move rfl ?_
                  refine o_idx (u := q.u) rfl ty26 rfl rfl (Int.natCast_nonneg n) (by simp [hq]) cl56 ?_
                  refine o_loadRN rfl rfl sh56 rfl ?_
                  refine o_alloc rfl ze56 ?_
                  refine o_storeN rfl (at_new _ _) sh56 rfl rfl rfl rfl rfl ?_
                  refine o_nil ?_
                  refine k_gen [(1, .box 0 0), (3, .bool (((ck2 b && b.lots.all gl1) && b.thins.all gl2) && (b.looks.take n).all gl3)), (6, .int .i64 n), (7, .box (1 + e.length) 0)] ([SB.box b.cs] ++ (e ++ [.box [.int .i64 q.a, .int .i64 q.b, .int .i64 q.c]])) (.cons rfl (.cons rfl (.cons rfl (.cons (by show U.box Y.length 0 = _; rw [← hY]; simp; omega) (.nil rfl))))) (by show (Y ++ [SB.box _]).set Y.length (SB.box _) = _; rw [set_end, ← hY, List.append_assoc]; rfl) fun fr => ?_
                  have hbx : ∀ y : SB, ([y] ++ (e ++ [SB.box [.int .i64 q.a, .int .i64 q.b, .int .i64 q.c]]))[1 + e.length]? = some (.box [.int .i64 q.a, .int .i64 q.b, .int .i64 q.c]) := fun y => by
                    rw [← List.append_assoc, show 1 + e.length = ([y] ++ e).length by simp; omega]; exact at_new _ _
                  refine k_region ?_
                  refine o_faddr rfl rfl fld56_0 ?_
                  refine o_load1 rfl rfl (hbx _) sh3 rfl ?_
                  refine o_call rfl (ret28 hi _ _ _) (.lrefl _) ?_
                  refine o_move rfl ?_
                  refine o_guard rfl rfl rfl rfl (fun h18 => ?_) (fun h18 => ?_)
                  · refine o_faddr rfl rfl fld56_1 ?_
                    refine o_gD rfl rfl rfl rfl h18 ?_
                    refine o_load1 rfl rfl (hbx _) sh3 rfl ?_
                    refine o_gD rfl rfl rfl rfl h18 ?_
                    refine o_call rfl (ret28 hi _ _ _) (.lrefl _) ?_
                    refine o_pickT rfl rfl h18 ?_
                    refine o_move rfl ?_
                    refine o_guard rfl rfl rfl rfl (fun h19 => ?_) (fun h19 => ?_)
                    · refine o_faddr rfl rfl fld56_2 ?_
                      refine o_gD rfl rfl rfl rfl h19 ?_
                      refine o_load1 rfl rfl (hbx _) sh3 rfl ?_
                      refine o_gD rfl rfl rfl rfl h19 ?_
                      refine o_call rfl (ret28 hi _ _ _) (.lrefl _) ?_
                      refine o_pickT rfl rfl h19 ?_
                      refine o_assign rfl ?_
                      refine o_nil ?_
                      refine k_region ?_
                      refine o_move rfl ?_
                      refine o_add rfl rfl rfl (by unfold I64; omega) ?_
                      refine o_assign rfl ?_
                      refine o_nil ?_
                      exact ⟨k - 1, by omega, n + 1, e ++ [_], by omega, rfl, .cons rfl (.cons (congrArg U.bool (by rw [all_oneC gl3 hq, h16]; unfold gl3; simp only [h18, h19, Bool.true_and, Bool.false_and, Bool.and_false, Bool.not_true])) (.cons rfl (.nil rfl)))⟩
                    · refine o_gS rfl rfl rfl rfl h19 ?_
                      refine o_gS rfl rfl rfl rfl h19 ?_
                      refine o_pickF rfl rfl h19 ?_
                      refine o_assign rfl ?_
                      refine o_nil ?_
                      refine k_region ?_
                      refine o_move rfl ?_
                      refine o_add rfl rfl rfl (by unfold I64; omega) ?_
                      refine o_assign rfl ?_
                      refine o_nil ?_
                      exact ⟨k - 1, by omega, n + 1, e ++ [_], by omega, rfl, .cons rfl (.cons (congrArg U.bool (by rw [all_oneC gl3 hq, h16]; unfold gl3; simp only [h18, h19, Bool.true_and, Bool.false_and, Bool.and_false, Bool.not_true])) (.cons rfl (.nil rfl)))⟩
                  · refine o_gS rfl rfl rfl rfl h18 ?_
                    refine o_gS rfl rfl rfl rfl h18 ?_
                    refine o_pickF rfl rfl h18 ?_
                    refine o_move rfl ?_
                    refine o_gS rfl rfl rfl rfl rfl ?_
                    refine o_gS rfl rfl rfl rfl rfl ?_
                    refine o_gS rfl rfl rfl rfl rfl ?_
                    refine o_pickF rfl rfl rfl ?_
                    refine o_assign rfl ?_
                    refine o_nil ?_
                    refine k_region ?_
                    refine o_move rfl ?_
                    refine o_add rfl rfl rfl (by unfold I64; omega) ?_
                    refine o_assign rfl ?_
                    refine o_nil ?_
                    exact ⟨k - 1, by omega, n + 1, e ++ [_], by omega, rfl, .cons rfl (.cons (congrArg U.bool (by rw [all_oneC gl3 hq, h16]; unfold gl3; simp only [h18, Bool.true_and, Bool.false_and, Bool.and_false, Bool.not_true])) (.cons rfl (.nil rfl)))⟩
                · refine k_exit ?_
                  exact ⟨rfl, .cons (congrArg U.bool (by first | (rw [show n = b.looks.length by have := of_decide_eq_false h17; simp at this; omega, List.take_length]) | (rw [h16, all_pre h16]; rfl))) (.nil rfl)⟩
              · refine o_gS rfl rfl rfl rfl h16 ?_
                refine o_gS rfl rfl rfl rfl h16 ?_
                refine o_gS rfl rfl rfl rfl h16 ?_
                refine o_gS rfl rfl rfl rfl h16 ?_
                refine o_pickF rfl rfl h16 ?_
                refine o_nil ?_
                refine k_cond rfl (fun h => by cases h) (fun _ => ?_)
                refine k_exit ?_
                exact ⟨rfl, .cons (congrArg U.bool (by first | (rw [show n = b.looks.length by have := of_decide_eq_false h16; simp at this; omega, List.take_length]) | (rw [h16, all_pre h16]; rfl))) (.nil rfl)⟩
            · exact ⟨0, [], rfl, rfl, .cons rfl (.cons (congrArg U.bool (Bool.and_true _).symm) (.cons rfl (.nil rfl)))⟩
          · refine k_gen _ _ hM rfl fun fr => ?_
            refine k_seq ?_
            refine k_seq (k_region ?_)
            refine o_move rfl ?_
            refine o_not rfl rfl ?_
            refine o_nil ?_
            refine k_cond rfl (fun h20 => ?_) (fun h20 => ?_)
            · refine k_seq (k_region ?_)
              refine o_assign rfl ?_
              refine o_nil ?_
              refine k_ret ?_
              refine ⟨.inr rfl, _, .cons _ _ _ _ (.tmp 2) .nil, ?_⟩
              have e : valid b = false := by rw [← ck_valid]; exact (Bool.not_eq_true' _).mp h20
              rw [show checkR b = 20 by unfold checkR; rw [e]; rfl]; exact .refl _
            · refine k_skip ?_
              refine k_seq (k_region ?_)
              refine o_assign rfl ?_
              refine o_nil ?_
              refine k_ret ?_
              refine ⟨.inr rfl, _, .cons _ _ _ _ (.tmp 2) .nil, ?_⟩
              have e : valid b = true := by rw [← ck_valid]; exact (Bool.not_eq_false' _).mp h20
              rw [show checkR b = 0 by unfold checkR; rw [e]; rfl]; exact .refl _

-- 42 saron/saronref02.between params [28, 71, 3] pure True
noncomputable def b42 : Code := (Tryz.f42.body).getD .skip
theorem body42 : bodyOf Tryz.prog 42 = some (42, b42, [.cell 6 24]) := by kernel_rfl
theorem pure42 : pureFn Tryz.prog 42 = true := by kernel_rfl
set_option maxHeartbeats 4000000 in
theorem ret42 (hi : Off is) {b : Bk} {q : Tri} {l : List Tri} (hd : ∀ d ∈ q :: l, DOk b.thick d) (hl : (q :: l).length ≤ 8000) (n : Int) (hx : 0 ≤ n ∧ n ≤ 301) : RetP Tryz.prog is orc 42 [b.u, .lst .ro 3 (trisU (q :: l)), .int .i64 n] (spanU (lowT b.thick (q :: l) n) (highT b.thick (q :: l) n)) := by
  refine ret_of body42 pure42 (hi 42 (by decide)) rfl rfl (dat_l3 (dat_bk b 5) (dat_tris _ .ro (fun h => by cases h) 6) (.int _ _ _)) (.inl (dat_span _ _ _)) ?_
  have e1 : thI b.thick (q :: l) n 1 = (aft b.thick q n, aft b.thick q n) := by
    show mm b.thick n (aft b.thick q n, aft b.thick q n) q = _
    show (min (aft b.thick q n) (aft b.thick q n), max (aft b.thick q n) (aft b.thick q n)) = _
    rw [Int.min_self, Int.max_self]
  refine k_seq (k_region ?_)
  refine o_box rfl rfl ?_
  refine o_alloc rfl ze24 ?_
  refine o_nil ?_
  refine k_seq ?_
  refine k_draw [.read true, .plain, .plain, .read true, .plain, .plain, .plain] (by kernel_rfl) (by kernel_rfl) (by kernel_rfl) ?_
  refine d_load rfl (o_loadN rfl rfl rfl sh28 rfl (o_nil rfl)) ?_
  refine d_plain (o_move rfl (o_nil rfl)) ?_
  refine d_plain (o_idx (u := q.u) rfl ty71 rfl rfl (Int.le_refl 0) rfl cl46 (o_nil rfl)) ?_
  refine d_load rfl (o_loadRN rfl rfl sh46 rfl (o_nil rfl)) ?_
  refine d_plain (o_move rfl (o_nil rfl)) ?_
  refine d_plain (o_call rfl (ret68 hi (hd q List.mem_cons_self) n (by have := hx; omega)) (.lrefl _) (o_nil rfl)) ?_
  refine d_plain (o_assign rfl (o_nil rfl)) ?_
  refine d_nil ?_
  refine k_seq (k_region ?_)
  refine o_move rfl ?_
  refine o_move rfl ?_
  refine o_call rfl (ret31 hi _ _) (.lrefl _) ?_
  refine o_alloc rfl ze24 ?_
  refine o_storeN rfl rfl sh24 rfl rfl rfl rfl rfl ?_
  refine o_nil ?_
  refine k_seq ?_
  refine k_seq (k_region ?_)
  refine o_assign rfl ?_
  refine o_nil ?_
  refine k_block ?_

  refine k_loop (fun k s => ∃ i : Nat, k + i = (q :: l).length ∧ 1 ≤ i ∧ s.st = [.box b.cs, .box [.int .i64 0, .int .i64 0], .box [.int .i64 (thI b.thick (q :: l) n i).1, .int .i64 (thI b.thick (q :: l) n i).2]] ∧ Holds s [(1, .lst .ro 3 (trisU (q :: l))), (2, .int .i64 n), (3, .box 0 0), (6, .box 1 0), (8, .box 2 0), (9, .int .i64 i)]) (fun k s hI => ?_) l.length _ ?_
  · obtain ⟨i, hk, hi1, hst, hs⟩ := hI
    refine k_gen _ _ hs hst fun fr => ?_
    refine k_seq ?_
    refine k_seq (k_region ?_)
    refine o_move rfl ?_
    refine o_move rfl ?_
    refine o_len rfl ty71 rfl rfl ?_
    refine o_lss rfl rfl rfl ?_
    refine o_nil ?_
    refine k_cond rfl (fun h1 => ?_) (fun h1 => ?_)
    · have h3' : i < (q :: l).length := by
        have := of_decide_eq_true h1
        simp only [List.length_map] at this; omega
      obtain ⟨d, hq⟩ : ∃ d, (q :: l)[i]? = some d := ⟨(q :: l)[i], List.getElem?_eq_getElem h3'⟩
      have hdd := hd d (List.mem_of_getElem? hq)
      refine k_skip ?_
      refine k_seq ?_
      refine k_block ?_
      refine k_seq ?_
      refine k_draw [.read true, .plain, .plain, .plain, .read true, .plain, .plain, .plain] (by kernel_rfl) (by kernel_rfl) (by kernel_rfl) ?_
      refine d_load rfl (o_loadN rfl rfl rfl sh28 rfl (o_nil rfl)) ?_
      refine d_plain (o_move rfl (o_nil rfl)) ?_
      refine d_plain (o_move rfl (o_nil rfl)) ?_
      refine d_plain (o_idx (u := d.u) rfl ty71 rfl rfl (Int.natCast_nonneg i) (by rw [Int.toNat_natCast, List.getElem?_map, hq]; rfl) cl46 (o_nil rfl)) ?_
      refine d_load rfl (o_loadRN rfl rfl sh46 rfl (o_nil rfl)) ?_
      refine d_plain (o_move rfl (o_nil rfl)) ?_
      refine d_plain (o_call rfl (ret68 hi hdd n (by have := hx; omega)) (.lrefl _) (o_nil rfl)) ?_
      refine d_plain (o_assign rfl (o_nil rfl)) ?_
      refine d_nil ?_
      refine k_region ?_
      refine o_faddr rfl rfl fld24_0 ?_
      refine o_load1 rfl rfl rfl sh3 rfl ?_
      refine o_move rfl ?_
      refine o_min rfl rfl rfl ?_
      refine o_faddr rfl rfl fld24_1 ?_
      refine o_load1 rfl rfl rfl sh3 rfl ?_
      refine o_move rfl ?_
      refine o_max rfl rfl rfl ?_
      refine o_call rfl (ret31 hi _ _) (.lrefl _) ?_
      refine o_storeN rfl rfl sh24 rfl rfl rfl rfl rfl ?_
      refine o_nil ?_
      refine k_region ?_
      refine o_move rfl ?_
      refine o_add rfl rfl rfl (by unfold I64; omega) ?_
      refine o_assign rfl ?_
      refine o_nil ?_
      exact ⟨k - 1, by omega, i + 1, by omega, by omega, by rw [thI_succ hq]; rfl, .cons rfl (.cons rfl (.cons rfl (.cons rfl (.cons rfl (.cons rfl (.nil rfl))))))⟩
    · refine k_exit ?_
      refine k_seq (k_region ?_)
      refine o_loadN rfl rfl rfl sh24 rfl ?_
      refine o_storeN rfl rfl sh24 rfl rfl rfl rfl rfl ?_
      refine o_nil ?_
      refine k_ret ?_
      refine ⟨.inr rfl, _, .cons _ _ _ _ (.cellN 6 24 _ _ _ _ rfl rfl sh24 rfl) .nil, ?_⟩
      have h3' : i = (q :: l).length := by
        have := of_decide_eq_false h1
        simp only [List.length_map] at this; omega
      subst h3'
      exact .refl _
  · exact ⟨1, rfl, Nat.le_refl 1, (by rw [e1]; rfl), .cons rfl (.cons rfl (.cons rfl (.cons rfl (.cons rfl (.cons rfl (.nil rfl))))))⟩

-- 39 saron/saronref02.asked params [28, 4] pure True
noncomputable def b39 : Code := (Tryz.f39.body).getD .skip
theorem body39 : bodyOf Tryz.prog 39 = some (21, b39, [.tmp 4, .tmp 5]) := by kernel_rfl
theorem pure39 : pureFn Tryz.prog 39 = true := by kernel_rfl
set_option maxHeartbeats 4000000 in
theorem ret39 (hi : Off is) {b : Bk} (hb : Ok b) {q : Tri} {l : List Tri} (hT : trs b = q :: l) : RetP Tryz.prog is orc 39 [b.u, .bool true] (.tup [.lst .ro 3 (trisU (q :: l)), .int .i64 0]) := by
  refine ret_of body39 pure39 (hi 39 (by decide)) rfl rfl (dat_l2 (dat_bk b 5) (.bool _ _)) (.inr ⟨_, rfl, dat_l2 (dat_tris _ .ro (fun h => by cases h) 5) (.int _ _ _)⟩) ?_
  have g11 : decide (checkR b ≠ 0) = false := by unfold checkR; rw [ok_valid hb]; rfl
  have h46 := ret46 (orc := orc) hi hb
  rw [hT] at h46
  refine k_seq (k_region ?_)
  refine o_box rfl rfl ?_
  refine o_assign rfl ?_
  refine o_assign rfl ?_
  refine o_nil ?_
  refine k_seq ?_
  refine k_seq (k_region ?_)
  refine o_loadN rfl rfl rfl sh28 rfl ?_
  refine o_call rfl (ret45 hi b) (.lrefl _) ?_
  refine o_assign rfl ?_
  refine o_nil ?_
  refine k_seq (k_region ?_)
  refine o_move rfl ?_
  refine o_neq rfl rfl rfl ?_
  refine o_nil ?_
  refine k_cF rfl g11 ?_
  refine k_skip ?_
  refine k_seq ?_
  refine k_seq (k_region ?_)
  refine o_move rfl ?_
  refine o_not rfl rfl ?_
  refine o_nil ?_
  refine k_cF rfl rfl ?_
  refine k_skip ?_
  refine k_seq (k_region ?_)
  refine o_loadN rfl rfl rfl sh28 rfl ?_
  refine o_call rfl (h46) (.lrefl _) ?_
  refine o_assign rfl ?_
  refine o_nil ?_
  refine k_seq ?_
  refine k_seq (k_region ?_)
  refine o_move rfl ?_
  refine o_len rfl ty71 rfl rfl ?_
  refine o_eql rfl rfl rfl ?_
  refine o_nil ?_
  refine k_cF rfl (decide_eq_false (by intro h; cases h)) ?_
  refine k_skip ?_
  refine k_seq (k_region ?_)
  refine o_move rfl ?_
  refine o_assign rfl ?_
  refine o_assign rfl ?_
  refine o_nil ?_
  refine k_ret ?_
  refine ⟨.inr rfl, _, .cons _ _ _ _ (.tmp 4) (.cons _ _ _ _ (.tmp 5) .nil), ?_⟩
  exact .refl _

theorem done_iff {b : Bk} {q : Tri} {l : List Tri} {n : Int} : doneT b (q :: l) n = true ↔ b.glo ≤ lowT b.thick (q :: l) n ∧ highT b.thick (q :: l) n ≤ b.ghi ∧ b.crack ≤ lowT b.thick (q :: l) n := by
  have h := (low_spec b.thick q l n).1
  unfold doneT wi
  simp only [Bool.and_eq_true, decide_eq_true_eq]
  omega
theorem done_under (b : Bk) (q : Tri) (l : List Tri) (n : Int) : ((decide (b.glo ≤ lowT b.thick (q :: l) n) && decide (highT b.thick (q :: l) n ≤ b.ghi)) && decide (b.crack ≤ lowT b.thick (q :: l) n)) = doneT b (q :: l) n := by
  rw [Bool.eq_iff_iff, done_iff]
  simp only [Bool.and_eq_true, decide_eq_true_eq]
  omega

-- 17 saron/saronref02.Blows params [28] pure True
noncomputable def b17 : Code := (Tryz.f17.body).getD .skip
theorem body17 : bodyOf Tryz.prog 17 = some (36, b17, [.tmp 2, .tmp 3]) := by kernel_rfl
theorem pure17 : pureFn Tryz.prog 17 = true := by kernel_rfl
set_option maxHeartbeats 4000000 in
theorem ret17 (hi : Off is) {b : Bk} (hb : Ok b) {q : Tri} {l : List Tri} (hT : trs b = q :: l) : RetP Tryz.prog is orc 17 [b.u] (.tup [.int .i64 (optI (fstN (fun i => doneT b (q :: l) i) 301 0)), .int .i64 (optE (fstN (fun i => doneT b (q :: l) i) 301 0))]) := by
  refine ret_of body17 pure17 (hi 17 (by decide)) rfl rfl (dat_l1 (dat_bk b 5)) (.inr ⟨_, rfl, dat_l2 (.int _ _ _) (.int _ _ _)⟩) ?_
  have hd : ∀ d ∈ q :: l, DOk b.thick d := by rw [← hT]; exact trs_ok hb
  have hl : (q :: l).length ≤ 8000 := by rw [← hT]; exact trs_len hb
  refine k_seq (k_region ?_)
  refine o_box rfl rfl ?_
  refine o_assign rfl ?_
  refine o_assign rfl ?_
  refine o_nil ?_
  refine k_seq (k_region ?_)
  refine o_loadN rfl rfl rfl sh28 rfl ?_
  refine o_call rfl (ret39 hi hb hT) (.lrefl _) ?_
  refine o_move rfl ?_
  refine o_extract rfl rfl rfl ?_
  refine o_extract rfl rfl rfl ?_
  refine o_assign rfl ?_
  refine o_assign rfl ?_
  refine o_nil ?_
  refine k_seq ?_
  refine k_seq (k_region ?_)
  refine o_move rfl ?_
  refine o_neq rfl rfl rfl ?_
  refine o_nil ?_
  refine k_cF rfl (decide_eq_false (fun h => h rfl)) ?_
  refine k_skip ?_
  refine k_seq ?_
  refine k_seq (k_region ?_)
  refine o_assign rfl ?_
  refine o_nil ?_
  refine k_block ?_

  refine k_loop (fun k s => ∃ (n : Nat) (e : List SB), k + n = 301 ∧ fstN (fun i => doneT b (q :: l) i) 301 0 = fstN (fun i => doneT b (q :: l) i) (301 - n) n ∧ s.st = [.box b.cs] ++ e ∧ Holds s [(1, .box 0 0), (4, .lst .ro 3 (trisU (q :: l))), (6, .int .i64 n)]) (fun k s hI => ?_) 301 _ ?_
  · obtain ⟨n, e, hk, hf, hst, hs⟩ := hI
    generalize hY : [SB.box b.cs] ++ e = Y at hst
    have hY0 : Y[0]? = some (.box b.cs) := by rw [← hY]; rfl
    refine k_gen _ _ hs hst fun fr => ?_
    refine k_seq ?_
    refine k_seq (k_region ?_)
    refine o_move rfl ?_
    refine o_leq rfl rfl rfl ?_
    refine o_nil ?_
    refine k_cond rfl (fun h1 => ?_) (fun h1 => ?_)
    · have hn : n < 301 := by
        have := of_decide_eq_true h1
        omega
      have e4 : 301 - n = (300 - n) + 1 := by omega
      refine k_skip ?_
      refine k_seq ?_
      refine k_block ?_
      refine k_seq (k_region ?_)
      refine o_loadN rfl rfl hY0 sh28 rfl ?_
      refine o_move rfl ?_
      refine o_move rfl ?_
      refine o_call rfl (ret42 hi hd hl n (by omega)) (.lrefl _) ?_
      refine o_alloc rfl ze24 ?_
      refine o_storeN rfl (at_new _ _) sh24 rfl rfl rfl rfl rfl ?_
      refine o_nil ?_
      refine k_gen [(1, .box 0 0), (4, .lst .ro 3 (trisU (q :: l))), (6, .int .i64 n), (7, .box (1 + e.length) 0)] ([SB.box b.cs] ++ (e ++ [.box [.int .i64 (lowT b.thick (q :: l) n), .int .i64 (highT b.thick (q :: l) n)]])) (.cons rfl (.cons rfl (.cons rfl (.cons (by show U.box Y.length 0 = _; rw [← hY]; simp; omega) (.nil rfl))))) (by show (Y ++ [SB.box _]).set Y.length (SB.box _) = _; rw [set_end, ← hY, List.append_assoc]; rfl) fun fr => ?_
      have hbx : ∀ y x : SB, ([y] ++ (e ++ [x]))[1 + e.length]? = some x := fun y x => by
        rw [← List.append_assoc, show 1 + e.length = ([y] ++ e).length by simp; omega]; exact at_new _ _
      refine k_cut (fun s => s.st = [.box b.cs] ++ (e ++ [.box [.int .i64 (lowT b.thick (q :: l) n), .int .i64 (highT b.thick (q :: l) n)]]) ∧ Holds s [(1, .box 0 0), (4, .lst .ro 3 (trisU (q :: l))), (6, .int .i64 n), (34, .bool (doneT b (q :: l) n))]) ?_ (fun s hM => ?_)
      · refine k_region ?_
        refine o_loadN rfl rfl (hbx _ _) sh24 rfl ?_
        refine o_faddr rfl rfl fld28_4 ?_
        refine o_loadN rfl rfl rfl sh24 rfl ?_
        refine o_call rfl (ret29 hi _ _ _ _) (.lrefl _) ?_
        refine o_move rfl ?_
        refine o_guard rfl rfl rfl rfl (fun h2 => ?_) (fun h2 => ?_)
        · refine o_faddr rfl rfl fld24_0 ?_
          refine o_gD rfl rfl rfl rfl h2 ?_
          refine o_load1 rfl rfl (hbx _ _) sh3 rfl ?_
          refine o_gD rfl rfl rfl rfl h2 ?_
          refine o_faddr rfl rfl fld28_3 ?_
          refine o_gD rfl rfl rfl rfl h2 ?_
          refine o_load1 rfl rfl rfl sh3 rfl ?_
          refine o_gD rfl rfl rfl rfl h2 ?_
          refine o_geq rfl rfl rfl ?_
          refine o_pickT rfl rfl h2 ?_
          refine o_nil ?_
          exact ⟨rfl, rfl, .cons rfl (.cons rfl (.cons rfl (.cons (congrArg U.bool (by rw [← done_under, h2]; rfl)) (.nil rfl))))⟩
        · refine o_gS rfl rfl rfl rfl h2 ?_
          refine o_gS rfl rfl rfl rfl h2 ?_
          refine o_gS rfl rfl rfl rfl h2 ?_
          refine o_gS rfl rfl rfl rfl h2 ?_
          refine o_pickF rfl rfl h2 ?_
          refine o_nil ?_
          exact ⟨rfl, rfl, .cons rfl (.cons rfl (.cons rfl (.cons (congrArg U.bool (by rw [← done_under, h2]; rfl)) (.nil rfl))))⟩
      · obtain ⟨hst, hs⟩ := hM
        refine k_gen _ _ hs hst fun fr => ?_
        refine k_cond rfl (fun h3 => ?_) (fun h3 => ?_)
        · refine k_seq (k_region ?_)
          refine o_move rfl ?_
          refine o_assign rfl ?_
          refine o_assign rfl ?_
          refine o_nil ?_
          refine k_ret ?_
          refine ⟨.inr rfl, _, .cons _ _ _ _ (.tmp 2) (.cons _ _ _ _ (.tmp 3) .nil), ?_⟩
          rw [hf, e4, fstN, if_pos h3]; exact .refl _
        · refine k_skip ?_
          refine k_region ?_
          refine o_move rfl ?_
          refine o_add rfl rfl rfl (by unfold I64; omega) ?_
          refine o_assign rfl ?_
          refine o_nil ?_
          exact ⟨k - 1, by omega, n + 1, e ++ [_], by omega, by rw [hf, e4, fstN, if_neg (by rw [h3]; simp), show 301 - (n + 1) = 300 - n by omega], rfl, .cons rfl (.cons rfl (.cons rfl (.nil rfl)))⟩
    · refine k_exit ?_
      refine k_seq (k_region ?_)
      refine o_assign rfl ?_
      refine o_assign rfl ?_
      refine o_nil ?_
      refine k_ret ?_
      refine ⟨.inr rfl, _, .cons _ _ _ _ (.tmp 2) (.cons _ _ _ _ (.tmp 3) .nil), ?_⟩
      have hn : ¬ ((n : Int) ≤ 300) := of_decide_eq_false h1
      rw [hf, show 301 - n = 0 by omega]; exact .refl _
  · exact ⟨0, [], rfl, rfl, rfl, .cons rfl (.cons rfl (.cons rfl (.nil rfl)))⟩

-- 19 saron/saronref02.Sound params [28] pure True
noncomputable def b19 : Code := (Tryz.f19.body).getD .skip
theorem body19 : bodyOf Tryz.prog 19 = some (28, b19, [.tmp 2, .tmp 3]) := by kernel_rfl
theorem pure19 : pureFn Tryz.prog 19 = true := by kernel_rfl
set_option maxHeartbeats 4000000 in
theorem ret19 (hi : Off is) {b : Bk} (hb : Ok b) {q : Tri} {l : List Tri} (hT : trs b = q :: l) : RetP Tryz.prog is orc 19 [b.u] (.tup [.int .i64 (optI (lstN (fun i => soundT b (q :: l) i) 301)), .int .i64 (optE (lstN (fun i => soundT b (q :: l) i) 301))]) := by
  refine ret_of body19 pure19 (hi 19 (by decide)) rfl rfl (dat_l1 (dat_bk b 5)) (.inr ⟨_, rfl, dat_l2 (.int _ _ _) (.int _ _ _)⟩) ?_
  have hd : ∀ d ∈ q :: l, DOk b.thick d := by rw [← hT]; exact trs_ok hb
  have hl : (q :: l).length ≤ 8000 := by rw [← hT]; exact trs_len hb
  refine k_seq (k_region ?_)
  refine o_box rfl rfl ?_
  refine o_assign rfl ?_
  refine o_assign rfl ?_
  refine o_nil ?_
  refine k_seq (k_region ?_)
  refine o_loadN rfl rfl rfl sh28 rfl ?_
  refine o_call rfl (ret39 hi hb hT) (.lrefl _) ?_
  refine o_move rfl ?_
  refine o_extract rfl rfl rfl ?_
  refine o_extract rfl rfl rfl ?_
  refine o_assign rfl ?_
  refine o_assign rfl ?_
  refine o_nil ?_
  refine k_seq ?_
  refine k_seq (k_region ?_)
  refine o_move rfl ?_
  refine o_neq rfl rfl rfl ?_
  refine o_nil ?_
  refine k_cF rfl (decide_eq_false (fun h => h rfl)) ?_
  refine k_skip ?_
  refine k_seq ?_
  refine k_seq (k_region ?_)
  refine o_assign rfl ?_
  refine o_nil ?_
  refine k_block ?_

  refine k_loop (fun k s => ∃ n : Nat, k = n ∧ n ≤ 301 ∧ lstN (fun i => soundT b (q :: l) i) 301 = lstN (fun i => soundT b (q :: l) i) n ∧ s.st = [.box b.cs] ∧ Holds s [(1, .box 0 0), (4, .lst .ro 3 (trisU (q :: l))), (6, .int .i64 (n - 1))]) (fun k s hI => ?_) 301 _ ?_
  · obtain ⟨n, hk, hk2, hf, hst, hs⟩ := hI
    refine k_gen _ _ hs hst fun fr => ?_
    refine k_seq ?_
    refine k_seq (k_region ?_)
    refine o_move rfl ?_
    refine o_geq rfl rfl rfl ?_
    refine o_nil ?_
    refine k_cond rfl (fun h1 => ?_) (fun h1 => ?_)
    · have hn : 0 ≤ (n : Int) - 1 := of_decide_eq_true h1
      obtain ⟨m, rfl⟩ : ∃ m, n = m + 1 := ⟨n - 1, by omega⟩
      have e4 : ((m + 1 : Nat) : Int) - 1 = m := by omega
      rw [e4]
      refine k_skip ?_
      refine k_seq ?_
      refine k_block ?_
      refine k_seq ?_
      refine k_draw [.read true, .plain, .plain, .read false, .plain, .plain, .read true, .plain] (by kernel_rfl) (by kernel_rfl) (by kernel_rfl) ?_
      refine d_load rfl (o_loadN rfl rfl rfl sh28 rfl (o_nil rfl)) ?_
      refine d_plain (o_move rfl (o_nil rfl)) ?_
      refine d_plain (o_move rfl (o_nil rfl)) ?_
      refine d_callR rfl (ret42 hi hd hl m (by omega)) (flat_span _ _) (.lrefl _) ?_
      refine d_plain (o_field1 rfl rfl fld24_0 sh3 rfl (o_nil rfl)) ?_
      refine d_plain (o_faddr rfl rfl fld28_3 (o_nil rfl)) ?_
      refine d_load rfl (o_load1 rfl rfl rfl sh3 rfl (o_nil rfl)) ?_
      refine d_plain (o_geq rfl rfl rfl (o_nil rfl)) ?_
      refine d_nil ?_
      refine k_cond rfl (fun h2 => ?_) (fun h2 => ?_)
      · refine k_seq (k_region ?_)
        refine o_move rfl ?_
        refine o_assign rfl ?_
        refine o_assign rfl ?_
        refine o_nil ?_
        refine k_ret ?_
        refine ⟨.inr rfl, _, .cons _ _ _ _ (.tmp 2) (.cons _ _ _ _ (.tmp 3) .nil), ?_⟩
        rw [hf, lstN, if_pos (show soundT b (q :: l) m = true from h2)]; exact .refl _
      · refine k_skip ?_
        refine k_region ?_
        refine o_move rfl ?_
        refine o_sub rfl rfl rfl (by unfold I64; omega) ?_
        refine o_assign rfl ?_
        refine o_nil ?_
        exact ⟨m, by omega, m, rfl, by omega, by rw [hf, lstN, if_neg (by rw [show soundT b (q :: l) m = false from h2]; simp)], rfl, .cons rfl (.cons rfl (.cons rfl (.nil rfl)))⟩
    · refine k_exit ?_
      refine k_seq (k_region ?_)
      refine o_assign rfl ?_
      refine o_assign rfl ?_
      refine o_nil ?_
      refine k_ret ?_
      refine ⟨.inr rfl, _, .cons _ _ _ _ (.tmp 2) (.cons _ _ _ _ (.tmp 3) .nil), ?_⟩
      have hn : ¬ (0 ≤ (n : Int) - 1) := of_decide_eq_false h1
      rw [hf, show n = 0 by omega]; exact .refl _
  · exact ⟨301, rfl, by omega, rfl, rfl, .cons rfl (.cons rfl (.cons rfl (.nil rfl)))⟩

def HeatI (b : Bk) (d : Int) (n : Nat) (h c : Int) : Prop := ∃ q s : Int, (n : Int) = hin b d * q + s ∧ 0 ≤ q ∧ 0 ≤ s ∧ s < hin b d ∧ h = (if s = 0 then q else q + 1) ∧ c = (if n = 0 then -1 else if s = 0 then b.hot - d * hin b d else b.hot - d * s)
theorem hin_span {b : Bk} (hk : Ok b) {d : Int} (hd : 1 ≤ d) : d * (hin b d - 1) ≤ b.hot - b.least ∧ b.hot - b.least < d * hin b d := by
  have h1 := Int.emod_add_mul_ediv (b.hot - b.least) d
  have h2 := Int.emod_nonneg (b.hot - b.least) (show d ≠ 0 by omega)
  have h3 := Int.emod_lt_of_pos (b.hot - b.least) (show 0 < d by omega)
  have e : hin b d = (b.hot - b.least) / d + 1 := rfl
  rw [e, Int.mul_add, Int.mul_one, Int.add_sub_cancel]
  omega
theorem heat_c {b : Bk} (hk : Ok b) {d s : Int} (hd : 1 ≤ d ∧ d ≤ 300) (h0 : 0 ≤ s) (h1 : s ≤ hin b d) : 0 ≤ d * s ∧ d * s ≤ 1800 := by
  have h2 := hin_span hk hd.1
  have := hk.hot; have := hk.least
  have h3 := Int.mul_nonneg (show 0 ≤ d by omega) h0
  have h4 := Int.mul_le_mul_of_nonneg_left h1 (show 0 ≤ d by omega)
  have h5 : d * hin b d = d * (hin b d - 1) + d := by rw [Int.mul_sub]; omega
  omega
theorem heat_b {b : Bk} (hk : Ok b) {d : Int} (hd : 1 ≤ d ∧ d ≤ 300) {n : Nat} {h c : Int} (hI : HeatI b d n h c) : 0 ≤ h ∧ h ≤ n + 1 ∧ -2000 ≤ c ∧ c ≤ 1500 := by
  obtain ⟨q, s, e1, e2, e3, e4, rfl, rfl⟩ := hI
  have h1 := (hin_ge hk hd.1).1
  have h2 := heat_c hk hd e3 (by omega)
  have h3 := heat_c hk hd (show 0 ≤ hin b d by omega) (Int.le_refl _)
  have h4 := Int.mul_le_mul_of_nonneg_right h1 e2
  have := hk.hot
  split <;> split <;> (try split) <;> omega
theorem heat_lt {b : Bk} (hk : Ok b) {d : Int} (hd : 1 ≤ d ∧ d ≤ 300) {n : Nat} {h c : Int} (hI : HeatI b d n h c) (hc : c < b.least) : HeatI b d (n + 1) (h + 1) (b.hot - d) := by
  obtain ⟨q, s, e1, e2, e3, e4, e5, e6⟩ := hI
  have h1 := (hin_ge hk hd.1).1
  have h2 := hin_span hk hd.1
  have hl := hk.least
  have hs : s = 0 := by
    by_cases hs : s = 0
    · exact hs
    · have h3 := Int.mul_le_mul_of_nonneg_left (show s ≤ hin b d - 1 by omega) (show 0 ≤ d by omega)
      have hn : n ≠ 0 := by
        rintro rfl
        have := Int.mul_nonneg (show 0 ≤ hin b d by omega) e2
        omega
      rw [if_neg hn, if_neg hs] at e6
      omega
  subst hs
  rw [if_pos rfl] at e5
  subst e5
  by_cases hm : hin b d = 1
  · refine ⟨h + 1, 0, ?_, by omega, by omega, by omega, by rw [if_pos rfl], ?_⟩
    · rw [hm] at e1 ⊢; omega
    · rw [if_neg (by omega), if_pos rfl, hm]; omega
  · refine ⟨h, 1, by omega, by omega, by omega, by omega, by rw [if_neg (by omega)], ?_⟩
    rw [if_neg (by omega), if_neg (by omega)]; omega
theorem heat_ge {b : Bk} (hk : Ok b) {d : Int} (hd : 1 ≤ d ∧ d ≤ 300) {n : Nat} {h c : Int} (hI : HeatI b d n h c) (hc : ¬ c < b.least) : HeatI b d (n + 1) h (c - d) := by
  obtain ⟨q, s, e1, e2, e3, e4, e5, e6⟩ := hI
  have h1 := (hin_ge hk hd.1).1
  have h2 := hin_span hk hd.1
  have hl := hk.least
  have hs : s ≠ 0 := by
    rintro rfl
    rw [if_pos rfl] at e6
    split at e6 <;> omega
  have hn : n ≠ 0 := by
    rintro rfl
    have := Int.mul_nonneg (show 0 ≤ hin b d by omega) e2
    omega
  rw [if_neg hs] at e5
  rw [if_neg hn, if_neg hs] at e6
  have h3 : d * (s + 1) = d * s + d := by rw [Int.mul_add, Int.mul_one]
  by_cases hm : s + 1 = hin b d
  · refine ⟨q + 1, 0, ?_, by omega, by omega, by omega, by rw [if_pos rfl]; exact e5, ?_⟩
    · rw [Int.mul_add, Int.mul_one]; omega
    · rw [if_neg (by omega), if_pos rfl, ← hm]; omega
  · refine ⟨q, s + 1, by omega, by omega, by omega, by omega, by rw [if_neg (by omega)]; exact e5, ?_⟩
    rw [if_neg (by omega), if_neg (by omega)]; omega
theorem heat_end {b : Bk} (hk : Ok b) {d : Int} (hd : 1 ≤ d ∧ d ≤ 300) {n : Nat} {h c : Int} (hI : HeatI b d n h c) : h = hat b n d := by
  obtain ⟨q, s, e1, e2, e3, e4, e5, _⟩ := hI
  have h1 := (hin_ge hk hd.1).1
  unfold hat
  rw [e1, e5]
  by_cases hs : s = 0
  · rw [if_pos hs, hs, show hin b d * q + 0 + hin b d - 1 = (hin b d - 1) + hin b d * q by omega, Int.add_mul_ediv_left _ _ (by omega), Int.ediv_eq_zero_of_lt (by omega) (by omega)]; omega
  · rw [if_neg hs, show hin b d * q + s + hin b d - 1 = (s - 1) + hin b d * (q + 1) by rw [Int.mul_add, Int.mul_one]; omega, Int.add_mul_ediv_left _ _ (by omega), Int.ediv_eq_zero_of_lt (by omega) (by omega)]; omega

-- 57 saron/saronref02.struck params [28, 3, 3] pure True
noncomputable def b57 : Code := (Tryz.f57.body).getD .skip
theorem body57 : bodyOf Tryz.prog 57 = some (27, b57, [.tmp 6]) := by kernel_rfl
theorem pure57 : pureFn Tryz.prog 57 = true := by kernel_rfl
set_option maxHeartbeats 4000000 in
theorem ret57 (hi : Off is) {b : Bk} (hk : Ok b) (N d : Int) (hd : 1 ≤ d ∧ d ≤ 300) (hN : 0 ≤ N ∧ N ≤ 300) : RetP Tryz.prog is orc 57 [b.u, .int .i64 N, .int .i64 d] (.int .i64 (hat b N d)) := by
  refine ret_of body57 pure57 (hi 57 (by decide)) rfl rfl (dat_l3 (dat_bk b 5) (.int _ _ _) (.int _ _ _)) (.inl (.int _ _ _)) ?_
  refine k_seq (k_region ?_)
  refine o_box rfl rfl ?_
  refine o_assign rfl ?_
  refine o_nil ?_
  refine k_seq (k_region ?_)
  refine o_assign rfl ?_
  refine o_assign rfl ?_
  refine o_nil ?_
  refine k_seq ?_
  refine k_seq (k_region ?_)
  refine o_assign rfl ?_
  refine o_nil ?_
  refine k_block ?_

  refine k_loop (fun k s => ∃ (n : Nat) (h c : Int), k + n = N.toNat ∧ HeatI b d n h c ∧ s.st = [.box b.cs] ∧ Holds s [(1, .int .i64 N), (2, .int .i64 d), (3, .box 0 0), (7, .int .i64 h), (8, .int .i64 c), (9, .int .i64 n)]) (fun k s hI => ?_) N.toNat _ ?_
  · obtain ⟨n, h, c, hk0, hI, hst, hs⟩ := hI
    refine k_gen _ _ hs hst fun fr => ?_
    refine k_seq ?_
    refine k_seq (k_region ?_)
    refine o_move rfl ?_
    refine o_move rfl ?_
    refine o_lss rfl rfl rfl ?_
    refine o_nil ?_
    refine k_cond rfl (fun h1 => ?_) (fun h1 => ?_)
    · have hn : (n : Int) < N := of_decide_eq_true h1
      have hb := heat_b hk hd hI
      have hho := hk.hot
      refine k_skip ?_
      refine k_seq ?_
      refine k_block ?_
      refine k_cut (fun s => ∃ h c : Int, HeatI b d (n + 1) h (c - d) ∧ (-2000 ≤ c - d ∧ c ≤ 1500) ∧ s.st = [.box b.cs] ∧ Holds s [(1, .int .i64 N), (2, .int .i64 d), (3, .box 0 0), (7, .int .i64 h), (8, .int .i64 c), (9, .int .i64 n)]) ?_ (fun s hM => ?_)
      · refine k_seq (k_region ?_)
        refine o_move rfl ?_
        refine o_faddr rfl rfl fld28_7 ?_
        refine o_load1 rfl rfl rfl sh3 rfl ?_
        refine o_lss rfl rfl rfl ?_
        refine o_nil ?_
        refine k_cond rfl (fun h2 => ?_) (fun h2 => ?_)
        · refine k_seq (k_region ?_)
          refine o_move rfl ?_
          refine o_add rfl rfl rfl (by unfold I64; omega) ?_
          refine o_assign rfl ?_
          refine o_nil ?_
          refine k_region ?_
          refine o_faddr rfl rfl fld28_6 ?_
          refine o_load1 rfl rfl rfl sh3 rfl ?_
          refine o_assign rfl ?_
          refine o_nil ?_
          exact ⟨rfl, h + 1, b.hot, heat_lt hk hd hI (of_decide_eq_true h2), by omega, rfl, .cons rfl (.cons rfl (.cons rfl (.cons rfl (.cons rfl (.cons rfl (.nil rfl))))))⟩
        · refine k_skip ?_
          exact ⟨rfl, h, c, heat_ge hk hd hI (of_decide_eq_false h2), (by have := hk.least; have := of_decide_eq_false h2; omega), rfl, .cons rfl (.cons rfl (.cons rfl (.cons rfl (.cons rfl (.cons rfl (.nil rfl))))))⟩
      · obtain ⟨h, c, hI, hb, hst, hs⟩ := hM
        refine k_gen _ _ hs hst fun fr => ?_
        refine k_region ?_
        refine o_move rfl ?_
        refine o_move rfl ?_
        refine o_sub rfl rfl rfl (by unfold I64; omega) ?_
        refine o_assign rfl ?_
        refine o_nil ?_
        refine k_region ?_
        refine o_move rfl ?_
        refine o_add rfl rfl rfl (by unfold I64; omega) ?_
        refine o_assign rfl ?_
        refine o_nil ?_
        exact ⟨k - 1, by omega, n + 1, h, c - d, by omega, hI, rfl, .cons rfl (.cons rfl (.cons rfl (.cons rfl (.cons rfl (.cons rfl (.nil rfl))))))⟩
    · refine k_exit ?_
      refine k_seq (k_region ?_)
      refine o_move rfl ?_
      refine o_assign rfl ?_
      refine o_nil ?_
      refine k_ret ?_
      refine ⟨.inr rfl, _, .cons _ _ _ _ (.tmp 6) .nil, ?_⟩
      have e3 : (n : Int) = N := by have := of_decide_eq_false h1; omega
      rw [← e3, ← heat_end hk hd hI]; exact .refl _
  · exact ⟨0, 0, -1, rfl, ⟨0, 0, by simp, Int.le_refl 0, Int.le_refl 0, by have := hin_ge hk hd.1; omega, rfl, rfl⟩, rfl, .cons rfl (.cons rfl (.cons rfl (.cons rfl (.cons rfl (.cons rfl (.nil rfl))))))⟩

theorem checkR_20 {b : Bk} (hv : checkR b ≠ 0) : checkR b = 20 := by
  unfold checkR at hv ⊢
  split at hv
  · exact absurd rfl hv
  · rename_i h; rw [if_neg h]

set_option maxHeartbeats 4000000 in
theorem ret43i (hi : Off is) {b : Bk} (hv : checkR b ≠ 0) (x : Bool) : RetP Tryz.prog is orc 43 [b.u, .bool x] (.tup [zbk, .int .i64 20]) := by
  refine ret_of body43 pure43 (hi 43 (by decide)) rfl rfl (dat_l2 (dat_bk b 5) (.bool _ _)) (.inr ⟨_, rfl, dat_l2 (dat_zbk 4) (.int _ _ _)⟩) ?_
  have h58 : RetP Tryz.prog is orc 58 [b.u] (.int .i64 20) := by have := ret58 (orc := orc) hi b; rwa [checkR_20 hv] at this
  refine k_seq (k_region ?_)
  refine o_box rfl rfl ?_
  refine o_alloc rfl ze67 ?_
  refine o_assign rfl ?_
  refine o_nil ?_
  refine k_seq ?_
  refine k_seq (k_region ?_)
  refine o_loadN rfl rfl rfl sh28 rfl ?_
  refine o_call rfl (h58) (.lrefl _) ?_
  refine o_assign rfl ?_
  refine o_nil ?_
  refine k_seq (k_region ?_)
  refine o_move rfl ?_
  refine o_neq rfl rfl rfl ?_
  refine o_nil ?_
  refine k_cT rfl (decide_eq_true (by decide : (20 : Int) ≠ 0)) ?_
  refine k_seq (k_region ?_)
  refine o_build (cs := zbkC) rfl ze67 pl67 rfl rfl ?_
  refine o_move rfl ?_
  refine o_storeN rfl rfl sh67 rfl rfl rfl rfl rfl ?_
  refine o_assign rfl ?_
  refine o_nil ?_
  refine k_ret ?_
  refine ⟨.inr rfl, _, .cons _ _ _ _ (.cellN 4 67 _ _ _ _ rfl rfl sh67 rfl) (.cons _ _ _ _ (.tmp 5) .nil), ?_⟩
  exact .refl _

set_option maxHeartbeats 4000000 in
theorem ret36i (hi : Off is) {b : Bk} (hv : checkR b ≠ 0) : RetP Tryz.prog is orc 36 [b.u, .bool true] (.tup [zbk, .int .i64 20]) := by
  refine ret_of body36 pure36 (hi 36 (by decide)) rfl rfl (dat_l2 (dat_bk b 5) (.bool _ _)) (.inr ⟨_, rfl, dat_l2 (dat_zbk 4) (.int _ _ _)⟩) ?_
  refine k_seq (k_region ?_)
  refine o_box rfl rfl ?_
  refine o_alloc rfl ze67 ?_
  refine o_assign rfl ?_
  refine o_nil ?_
  refine k_seq (k_region ?_)
  refine o_loadN rfl rfl rfl sh28 rfl ?_
  refine o_move rfl ?_
  refine o_call rfl (ret43i hi hv true) (.lrefl _) ?_
  refine o_move rfl ?_
  refine o_extract rfl rfl rfl ?_
  refine o_extract rfl rfl rfl ?_
  refine o_alloc rfl ze67 ?_
  refine o_storeN rfl rfl sh67 rfl rfl rfl rfl rfl ?_
  refine o_assign rfl ?_
  refine o_nil ?_
  refine k_seq ?_
  refine k_seq (k_region ?_)
  refine o_move rfl ?_
  refine o_neq rfl rfl rfl ?_
  refine o_nil ?_
  refine k_cT rfl (decide_eq_true (by decide : (20 : Int) ≠ 0)) ?_
  refine k_seq (k_region ?_)
  refine o_build (cs := zbkC) rfl ze67 pl67 rfl rfl ?_
  refine o_move rfl ?_
  refine o_storeN rfl rfl sh67 rfl rfl rfl rfl rfl ?_
  refine o_assign rfl ?_
  refine o_nil ?_
  refine k_ret ?_
  refine ⟨.inr rfl, _, .cons _ _ _ _ (.cellN 4 67 _ _ _ _ rfl rfl sh67 rfl) (.cons _ _ _ _ (.tmp 5) .nil), ?_⟩
  exact .refl _

set_option maxHeartbeats 4000000 in
theorem ret16i (hi : Off is) {b : Bk} (hv : checkR b ≠ 0) : RetP Tryz.prog is orc 16 [b.u] (.tup [.int .i64 0, .int .i64 20]) := by
  refine ret_of body16 pure16 (hi 16 (by decide)) rfl rfl (dat_l1 (dat_bk b 5)) (.inr ⟨_, rfl, dat_l2 (.int _ _ _) (.int _ _ _)⟩) ?_
  refine k_seq (k_region ?_)
  refine o_box rfl rfl ?_
  refine o_assign rfl ?_
  refine o_assign rfl ?_
  refine o_nil ?_
  refine k_seq (k_region ?_)
  refine o_loadN rfl rfl rfl sh28 rfl ?_
  refine o_call rfl (ret36i hi hv) (.lrefl _) ?_
  refine o_move rfl ?_
  refine o_extract rfl rfl rfl ?_
  refine o_extract rfl rfl rfl ?_
  refine o_alloc rfl ze67 ?_
  refine o_storeN rfl rfl sh67 rfl rfl rfl rfl rfl ?_
  refine o_assign rfl ?_
  refine o_nil ?_
  refine k_seq ?_
  refine k_seq (k_region ?_)
  refine o_move rfl ?_
  refine o_neq rfl rfl rfl ?_
  refine o_nil ?_
  refine k_cT rfl (decide_eq_true (by decide : (20 : Int) ≠ 0)) ?_
  refine k_seq (k_region ?_)
  refine o_move rfl ?_
  refine o_assign rfl ?_
  refine o_assign rfl ?_
  refine o_nil ?_
  refine k_ret ?_
  refine ⟨.inr rfl, _, .cons _ _ _ _ (.tmp 2) (.cons _ _ _ _ (.tmp 3) .nil), ?_⟩
  exact .refl _

set_option maxHeartbeats 4000000 in
theorem ret18i (hi : Off is) {b : Bk} (hv : checkR b ≠ 0) : RetP Tryz.prog is orc 18 [b.u] (.tup [.int .i64 0, .int .i64 20]) := by
  refine ret_of body18 pure18 (hi 18 (by decide)) rfl rfl (dat_l1 (dat_bk b 5)) (.inr ⟨_, rfl, dat_l2 (.int _ _ _) (.int _ _ _)⟩) ?_
  refine k_seq (k_region ?_)
  refine o_box rfl rfl ?_
  refine o_assign rfl ?_
  refine o_assign rfl ?_
  refine o_nil ?_
  refine k_seq (k_region ?_)
  refine o_loadN rfl rfl rfl sh28 rfl ?_
  refine o_call rfl (ret36i hi hv) (.lrefl _) ?_
  refine o_move rfl ?_
  refine o_extract rfl rfl rfl ?_
  refine o_extract rfl rfl rfl ?_
  refine o_alloc rfl ze67 ?_
  refine o_storeN rfl rfl sh67 rfl rfl rfl rfl rfl ?_
  refine o_assign rfl ?_
  refine o_nil ?_
  refine k_seq ?_
  refine k_seq (k_region ?_)
  refine o_move rfl ?_
  refine o_neq rfl rfl rfl ?_
  refine o_nil ?_
  refine k_cT rfl (decide_eq_true (by decide : (20 : Int) ≠ 0)) ?_
  refine k_seq (k_region ?_)
  refine o_move rfl ?_
  refine o_assign rfl ?_
  refine o_assign rfl ?_
  refine o_nil ?_
  refine k_ret ?_
  refine ⟨.inr rfl, _, .cons _ _ _ _ (.tmp 2) (.cons _ _ _ _ (.tmp 3) .nil), ?_⟩
  exact .refl _

set_option maxHeartbeats 4000000 in
theorem ret20i (hi : Off is) {b : Bk} (hv : checkR b ≠ 0) (n : Int) : RetP Tryz.prog is orc 20 [b.u, .int .i64 n] (.tup [spanU 0 0, spanU 0 0, .int .i64 20]) := by
  refine ret_of body20 pure20 (hi 20 (by decide)) rfl rfl (dat_l2 (dat_bk b 5) (.int _ _ _)) (.inr ⟨_, rfl, dat_l3 (dat_span _ _ _) (dat_span _ _ _) (.int _ _ _)⟩) ?_
  refine k_seq (k_region ?_)
  refine o_box rfl rfl ?_
  refine o_alloc rfl ze24 ?_
  refine o_alloc rfl ze24 ?_
  refine o_assign rfl ?_
  refine o_nil ?_
  refine k_seq ?_
  refine k_draw [.read true, .plain, .read false, .quiet, .plain, .plain, .plain, .pre, .plain, .plain] (by kernel_rfl) (by kernel_rfl) (by kernel_rfl) ?_
  refine d_load rfl (o_loadN rfl rfl rfl sh28 rfl (o_nil rfl)) ?_
  refine d_plain (o_move rfl (o_nil rfl)) ?_
  refine d_callR rfl (ret40 hi n) (.bool _) (.lrefl _) ?_
  refine d_callQ rfl (ret43i hi hv _) (.lrefl _) ?_
  refine d_plain (o_move rfl (o_nil rfl)) ?_
  refine d_plain (o_extract rfl rfl rfl (o_nil rfl)) ?_
  refine d_plain (o_extract rfl rfl rfl (o_nil rfl)) ?_
  refine d_pre rfl ze67 ?_
  refine d_plain (o_storeN rfl rfl sh67 rfl rfl rfl rfl rfl (o_nil rfl)) ?_
  refine d_plain (o_assign rfl (o_nil rfl)) ?_
  refine d_nil ?_
  refine k_seq ?_
  refine k_seq (k_region ?_)
  refine o_move rfl ?_
  refine o_neq rfl rfl rfl ?_
  refine o_nil ?_
  refine k_cT rfl (decide_eq_true (by decide : (20 : Int) ≠ 0)) ?_
  refine k_seq (k_region ?_)
  refine o_build (cs := [.int .i64 0, .int .i64 0]) rfl ze24 pl24 rfl rfl ?_
  refine o_build (cs := [.int .i64 0, .int .i64 0]) rfl ze24 pl24 rfl rfl ?_
  refine o_move rfl ?_
  refine o_storeN rfl rfl sh24 rfl rfl rfl rfl rfl ?_
  refine o_storeN rfl rfl sh24 rfl rfl rfl rfl rfl ?_
  refine o_assign rfl ?_
  refine o_nil ?_
  refine k_ret ?_
  refine ⟨.inr rfl, _, .cons _ _ _ _ (.cellN 4 24 _ _ _ _ rfl rfl sh24 rfl) (.cons _ _ _ _ (.cellN 5 24 _ _ _ _ rfl rfl sh24 rfl) (.cons _ _ _ _ (.tmp 6) .nil)), ?_⟩
  exact .refl _

set_option maxHeartbeats 4000000 in
theorem ret39i (hi : Off is) {b : Bk} (hv : checkR b ≠ 0) : RetP Tryz.prog is orc 39 [b.u, .bool true] (.tup [.lst .full 0 [], .int .i64 20]) := by
  refine ret_of body39 pure39 (hi 39 (by decide)) rfl rfl (dat_l2 (dat_bk b 5) (.bool _ _)) (.inr ⟨_, rfl, dat_l2 (.lst _ _ _ _ (fun h => by cases h) (fun c hc => by cases hc)) (.int _ _ _)⟩) ?_
  have h45 : RetP Tryz.prog is orc 45 [b.u] (.int .i64 20) := by have := ret45 (orc := orc) hi b; rwa [checkR_20 hv] at this
  refine k_seq (k_region ?_)
  refine o_box rfl rfl ?_
  refine o_assign rfl ?_
  refine o_assign rfl ?_
  refine o_nil ?_
  refine k_seq ?_
  refine k_seq (k_region ?_)
  refine o_loadN rfl rfl rfl sh28 rfl ?_
  refine o_call rfl (h45) (.lrefl _) ?_
  refine o_assign rfl ?_
  refine o_nil ?_
  refine k_seq (k_region ?_)
  refine o_move rfl ?_
  refine o_neq rfl rfl rfl ?_
  refine o_nil ?_
  refine k_cT rfl (decide_eq_true (by decide : (20 : Int) ≠ 0)) ?_
  refine k_seq (k_region ?_)
  refine o_move rfl ?_
  refine o_assign rfl ?_
  refine o_assign rfl ?_
  refine o_nil ?_
  refine k_ret ?_
  refine ⟨.inr rfl, _, .cons _ _ _ _ (.tmp 4) (.cons _ _ _ _ (.tmp 5) .nil), ?_⟩
  exact .refl _

set_option maxHeartbeats 4000000 in
theorem ret17i (hi : Off is) {b : Bk} (hv : checkR b ≠ 0) : RetP Tryz.prog is orc 17 [b.u] (.tup [.int .i64 0, .int .i64 20]) := by
  refine ret_of body17 pure17 (hi 17 (by decide)) rfl rfl (dat_l1 (dat_bk b 5)) (.inr ⟨_, rfl, dat_l2 (.int _ _ _) (.int _ _ _)⟩) ?_
  refine k_seq (k_region ?_)
  refine o_box rfl rfl ?_
  refine o_assign rfl ?_
  refine o_assign rfl ?_
  refine o_nil ?_
  refine k_seq (k_region ?_)
  refine o_loadN rfl rfl rfl sh28 rfl ?_
  refine o_call rfl (ret39i hi hv) (.lrefl _) ?_
  refine o_move rfl ?_
  refine o_extract rfl rfl rfl ?_
  refine o_extract rfl rfl rfl ?_
  refine o_assign rfl ?_
  refine o_assign rfl ?_
  refine o_nil ?_
  refine k_seq ?_
  refine k_seq (k_region ?_)
  refine o_move rfl ?_
  refine o_neq rfl rfl rfl ?_
  refine o_nil ?_
  refine k_cT rfl (decide_eq_true (by decide : (20 : Int) ≠ 0)) ?_
  refine k_seq (k_region ?_)
  refine o_move rfl ?_
  refine o_assign rfl ?_
  refine o_assign rfl ?_
  refine o_nil ?_
  refine k_ret ?_
  refine ⟨.inr rfl, _, .cons _ _ _ _ (.tmp 2) (.cons _ _ _ _ (.tmp 3) .nil), ?_⟩
  exact .refl _

set_option maxHeartbeats 4000000 in
theorem ret19i (hi : Off is) {b : Bk} (hv : checkR b ≠ 0) : RetP Tryz.prog is orc 19 [b.u] (.tup [.int .i64 0, .int .i64 20]) := by
  refine ret_of body19 pure19 (hi 19 (by decide)) rfl rfl (dat_l1 (dat_bk b 5)) (.inr ⟨_, rfl, dat_l2 (.int _ _ _) (.int _ _ _)⟩) ?_
  refine k_seq (k_region ?_)
  refine o_box rfl rfl ?_
  refine o_assign rfl ?_
  refine o_assign rfl ?_
  refine o_nil ?_
  refine k_seq (k_region ?_)
  refine o_loadN rfl rfl rfl sh28 rfl ?_
  refine o_call rfl (ret39i hi hv) (.lrefl _) ?_
  refine o_move rfl ?_
  refine o_extract rfl rfl rfl ?_
  refine o_extract rfl rfl rfl ?_
  refine o_assign rfl ?_
  refine o_assign rfl ?_
  refine o_nil ?_
  refine k_seq ?_
  refine k_seq (k_region ?_)
  refine o_move rfl ?_
  refine o_neq rfl rfl rfl ?_
  refine o_nil ?_
  refine k_cT rfl (decide_eq_true (by decide : (20 : Int) ≠ 0)) ?_
  refine k_seq (k_region ?_)
  refine o_move rfl ?_
  refine o_assign rfl ?_
  refine o_assign rfl ?_
  refine o_nil ?_
  refine k_ret ?_
  refine ⟨.inr rfl, _, .cons _ _ _ _ (.tmp 2) (.cons _ _ _ _ (.tmp 3) .nil), ?_⟩
  exact .refl _

-- 21 saron/saronref02.Heats params [28, 3] pure True
noncomputable def b21 : Code := (Tryz.f21.body).getD .skip
theorem body21 : bodyOf Tryz.prog 21 = some (46, b21, [.cell 4 24, .cell 5 24, .tmp 6]) := by kernel_rfl
theorem pure21 : pureFn Tryz.prog 21 = true := by kernel_rfl
set_option maxHeartbeats 4000000 in
theorem ret21i (hi : Off is) {b : Bk} (hv : checkR b ≠ 0) (n : Int) : RetP Tryz.prog is orc 21 [b.u, .int .i64 n] (.tup [spanU 0 0, spanU 0 0, .int .i64 20]) := by
  refine ret_of body21 pure21 (hi 21 (by decide)) rfl rfl (dat_l2 (dat_bk b 5) (.int _ _ _)) (.inr ⟨_, rfl, dat_l3 (dat_span _ _ _) (dat_span _ _ _) (.int _ _ _)⟩) ?_
  have h45 : RetP Tryz.prog is orc 45 [b.u] (.int .i64 20) := by have := ret45 (orc := orc) hi b; rwa [checkR_20 hv] at this
  refine k_seq (k_region ?_)
  refine o_box rfl rfl ?_
  refine o_alloc rfl ze24 ?_
  refine o_alloc rfl ze24 ?_
  refine o_assign rfl ?_
  refine o_nil ?_
  refine k_seq ?_
  refine k_seq (k_region ?_)
  refine o_loadN rfl rfl rfl sh28 rfl ?_
  refine o_call rfl (h45) (.lrefl _) ?_
  refine o_assign rfl ?_
  refine o_nil ?_
  refine k_seq (k_region ?_)
  refine o_move rfl ?_
  refine o_neq rfl rfl rfl ?_
  refine o_nil ?_
  refine k_cT rfl (decide_eq_true (by decide : (20 : Int) ≠ 0)) ?_
  refine k_seq (k_region ?_)
  refine o_build (cs := [.int .i64 0, .int .i64 0]) rfl ze24 pl24 rfl rfl ?_
  refine o_build (cs := [.int .i64 0, .int .i64 0]) rfl ze24 pl24 rfl rfl ?_
  refine o_move rfl ?_
  refine o_storeN rfl rfl sh24 rfl rfl rfl rfl rfl ?_
  refine o_storeN rfl rfl sh24 rfl rfl rfl rfl rfl ?_
  refine o_assign rfl ?_
  refine o_nil ?_
  refine k_ret ?_
  refine ⟨.inr rfl, _, .cons _ _ _ _ (.cellN 4 24 _ _ _ _ rfl rfl sh24 rfl) (.cons _ _ _ _ (.cellN 5 24 _ _ _ _ rfl rfl sh24 rfl) (.cons _ _ _ _ (.tmp 6) .nil)), ?_⟩
  exact .refl _

theorem notin {n : Int} (hn : ¬ (0 ≤ n ∧ n ≤ 300)) : (decide (0 ≤ n) && decide (n ≤ 300)) = false := by
  rw [Bool.and_eq_false_iff, decide_eq_false_iff_not, decide_eq_false_iff_not]; omega
theorem isin {n : Int} (hn : 0 ≤ n ∧ n ≤ 300) : (decide (0 ≤ n) && decide (n ≤ 300)) = true := by
  rw [Bool.and_eq_true, decide_eq_true_eq, decide_eq_true_eq]; exact hn

set_option maxHeartbeats 4000000 in
theorem ret43q (hi : Off is) {b : Bk} (hb : Ok b) : RetP Tryz.prog is orc 43 [b.u, .bool false] (.tup [zbk, .int .i64 21]) := by
  refine ret_of body43 pure43 (hi 43 (by decide)) rfl rfl (dat_l2 (dat_bk b 5) (.bool _ _)) (.inr ⟨_, rfl, dat_l2 (dat_zbk 4) (.int _ _ _)⟩) ?_
  have hv : checkR b = 0 := by unfold checkR; rw [ok_valid hb]; rfl
  have h58 : RetP Tryz.prog is orc 58 [b.u] (.int .i64 0) := by have := ret58 (orc := orc) hi b; rwa [hv] at this
  refine k_seq (k_region ?_)
  refine o_box rfl rfl ?_
  refine o_alloc rfl ze67 ?_
  refine o_assign rfl ?_
  refine o_nil ?_
  refine k_seq ?_
  refine k_seq (k_region ?_)
  refine o_loadN rfl rfl rfl sh28 rfl ?_
  refine o_call rfl (h58) (.lrefl _) ?_
  refine o_assign rfl ?_
  refine o_nil ?_
  refine k_seq (k_region ?_)
  refine o_move rfl ?_
  refine o_neq rfl rfl rfl ?_
  refine o_nil ?_
  refine k_cF rfl (decide_eq_false (fun h => h rfl)) ?_
  refine k_skip ?_
  refine k_seq ?_
  refine k_seq (k_region ?_)
  refine o_move rfl ?_
  refine o_not rfl rfl ?_
  refine o_nil ?_
  refine k_cT rfl rfl ?_
  refine k_seq (k_region ?_)
  refine o_build (cs := zbkC) rfl ze67 pl67 rfl rfl ?_
  refine o_storeN rfl rfl sh67 rfl rfl rfl rfl rfl ?_
  refine o_assign rfl ?_
  refine o_nil ?_
  refine k_ret ?_
  refine ⟨.inr rfl, _, .cons _ _ _ _ (.cellN 4 67 _ _ _ _ rfl rfl sh67 rfl) (.cons _ _ _ _ (.tmp 5) .nil), ?_⟩
  exact .refl _

set_option maxHeartbeats 4000000 in
theorem ret20q (hi : Off is) {b : Bk} (hb : Ok b) (n : Int) (hn : ¬ (0 ≤ n ∧ n ≤ 300)) : RetP Tryz.prog is orc 20 [b.u, .int .i64 n] (.tup [spanU 0 0, spanU 0 0, .int .i64 21]) := by
  refine ret_of body20 pure20 (hi 20 (by decide)) rfl rfl (dat_l2 (dat_bk b 5) (.int _ _ _)) (.inr ⟨_, rfl, dat_l3 (dat_span _ _ _) (dat_span _ _ _) (.int _ _ _)⟩) ?_
  have h40 : RetP Tryz.prog is orc 40 [.int .i64 n] (.bool false) := by have := ret40 (orc := orc) hi n; rwa [notin hn] at this
  refine k_seq (k_region ?_)
  refine o_box rfl rfl ?_
  refine o_alloc rfl ze24 ?_
  refine o_alloc rfl ze24 ?_
  refine o_assign rfl ?_
  refine o_nil ?_
  refine k_seq ?_
  refine k_draw [.read true, .plain, .read false, .quiet, .plain, .plain, .plain, .pre, .plain, .plain] (by kernel_rfl) (by kernel_rfl) (by kernel_rfl) ?_
  refine d_load rfl (o_loadN rfl rfl rfl sh28 rfl (o_nil rfl)) ?_
  refine d_plain (o_move rfl (o_nil rfl)) ?_
  refine d_callR rfl (h40) (.bool _) (.lrefl _) ?_
  refine d_callQ rfl (ret43q hi hb) (.lrefl _) ?_
  refine d_plain (o_move rfl (o_nil rfl)) ?_
  refine d_plain (o_extract rfl rfl rfl (o_nil rfl)) ?_
  refine d_plain (o_extract rfl rfl rfl (o_nil rfl)) ?_
  refine d_pre rfl ze67 ?_
  refine d_plain (o_storeN rfl rfl sh67 rfl rfl rfl rfl rfl (o_nil rfl)) ?_
  refine d_plain (o_assign rfl (o_nil rfl)) ?_
  refine d_nil ?_
  refine k_seq ?_
  refine k_seq (k_region ?_)
  refine o_move rfl ?_
  refine o_neq rfl rfl rfl ?_
  refine o_nil ?_
  refine k_cT rfl (decide_eq_true (by decide : (21 : Int) ≠ 0)) ?_
  refine k_seq (k_region ?_)
  refine o_build (cs := [.int .i64 0, .int .i64 0]) rfl ze24 pl24 rfl rfl ?_
  refine o_build (cs := [.int .i64 0, .int .i64 0]) rfl ze24 pl24 rfl rfl ?_
  refine o_move rfl ?_
  refine o_storeN rfl rfl sh24 rfl rfl rfl rfl rfl ?_
  refine o_storeN rfl rfl sh24 rfl rfl rfl rfl rfl ?_
  refine o_assign rfl ?_
  refine o_nil ?_
  refine k_ret ?_
  refine ⟨.inr rfl, _, .cons _ _ _ _ (.cellN 4 24 _ _ _ _ rfl rfl sh24 rfl) (.cons _ _ _ _ (.cellN 5 24 _ _ _ _ rfl rfl sh24 rfl) (.cons _ _ _ _ (.tmp 6) .nil)), ?_⟩
  exact .refl _

set_option maxHeartbeats 4000000 in
theorem ret39n (hi : Off is) {b : Bk} (hb : Ok b) (hT : trs b = []) : RetP Tryz.prog is orc 39 [b.u, .bool true] (.tup [.lst .full 0 [], .int .i64 22]) := by
  refine ret_of body39 pure39 (hi 39 (by decide)) rfl rfl (dat_l2 (dat_bk b 5) (.bool _ _)) (.inr ⟨_, rfl, dat_l2 (.lst _ _ _ _ (fun h => by cases h) (fun c hc => by cases hc)) (.int _ _ _)⟩) ?_
  have hv : checkR b = 0 := by unfold checkR; rw [ok_valid hb]; rfl
  have h45 : RetP Tryz.prog is orc 45 [b.u] (.int .i64 0) := by have := ret45 (orc := orc) hi b; rwa [hv] at this
  have h46 := ret46 (orc := orc) hi hb
  rw [hT] at h46
  refine k_seq (k_region ?_)
  refine o_box rfl rfl ?_
  refine o_assign rfl ?_
  refine o_assign rfl ?_
  refine o_nil ?_
  refine k_seq ?_
  refine k_seq (k_region ?_)
  refine o_loadN rfl rfl rfl sh28 rfl ?_
  refine o_call rfl (h45) (.lrefl _) ?_
  refine o_assign rfl ?_
  refine o_nil ?_
  refine k_seq (k_region ?_)
  refine o_move rfl ?_
  refine o_neq rfl rfl rfl ?_
  refine o_nil ?_
  refine k_cF rfl (decide_eq_false (fun h => h rfl)) ?_
  refine k_skip ?_
  refine k_seq ?_
  refine k_seq (k_region ?_)
  refine o_move rfl ?_
  refine o_not rfl rfl ?_
  refine o_nil ?_
  refine k_cF rfl rfl ?_
  refine k_skip ?_
  refine k_seq (k_region ?_)
  refine o_loadN rfl rfl rfl sh28 rfl ?_
  refine o_call rfl (h46) (.lrefl _) ?_
  refine o_assign rfl ?_
  refine o_nil ?_
  refine k_seq ?_
  refine k_seq (k_region ?_)
  refine o_move rfl ?_
  refine o_len rfl ty71 rfl rfl ?_
  refine o_eql rfl rfl rfl ?_
  refine o_nil ?_
  refine k_cT rfl rfl ?_
  refine k_seq (k_region ?_)
  refine o_assign rfl ?_
  refine o_assign rfl ?_
  refine o_nil ?_
  refine k_ret ?_
  refine ⟨.inr rfl, _, .cons _ _ _ _ (.tmp 4) (.cons _ _ _ _ (.tmp 5) .nil), ?_⟩
  exact .refl _

set_option maxHeartbeats 4000000 in
theorem ret17n (hi : Off is) {b : Bk} (hb : Ok b) (hT : trs b = []) : RetP Tryz.prog is orc 17 [b.u] (.tup [.int .i64 0, .int .i64 22]) := by
  refine ret_of body17 pure17 (hi 17 (by decide)) rfl rfl (dat_l1 (dat_bk b 5)) (.inr ⟨_, rfl, dat_l2 (.int _ _ _) (.int _ _ _)⟩) ?_
  refine k_seq (k_region ?_)
  refine o_box rfl rfl ?_
  refine o_assign rfl ?_
  refine o_assign rfl ?_
  refine o_nil ?_
  refine k_seq (k_region ?_)
  refine o_loadN rfl rfl rfl sh28 rfl ?_
  refine o_call rfl (ret39n hi hb hT) (.lrefl _) ?_
  refine o_move rfl ?_
  refine o_extract rfl rfl rfl ?_
  refine o_extract rfl rfl rfl ?_
  refine o_assign rfl ?_
  refine o_assign rfl ?_
  refine o_nil ?_
  refine k_seq ?_
  refine k_seq (k_region ?_)
  refine o_move rfl ?_
  refine o_neq rfl rfl rfl ?_
  refine o_nil ?_
  refine k_cT rfl (decide_eq_true (by decide : (22 : Int) ≠ 0)) ?_
  refine k_seq (k_region ?_)
  refine o_move rfl ?_
  refine o_assign rfl ?_
  refine o_assign rfl ?_
  refine o_nil ?_
  refine k_ret ?_
  refine ⟨.inr rfl, _, .cons _ _ _ _ (.tmp 2) (.cons _ _ _ _ (.tmp 3) .nil), ?_⟩
  exact .refl _

set_option maxHeartbeats 4000000 in
theorem ret19n (hi : Off is) {b : Bk} (hb : Ok b) (hT : trs b = []) : RetP Tryz.prog is orc 19 [b.u] (.tup [.int .i64 0, .int .i64 22]) := by
  refine ret_of body19 pure19 (hi 19 (by decide)) rfl rfl (dat_l1 (dat_bk b 5)) (.inr ⟨_, rfl, dat_l2 (.int _ _ _) (.int _ _ _)⟩) ?_
  refine k_seq (k_region ?_)
  refine o_box rfl rfl ?_
  refine o_assign rfl ?_
  refine o_assign rfl ?_
  refine o_nil ?_
  refine k_seq (k_region ?_)
  refine o_loadN rfl rfl rfl sh28 rfl ?_
  refine o_call rfl (ret39n hi hb hT) (.lrefl _) ?_
  refine o_move rfl ?_
  refine o_extract rfl rfl rfl ?_
  refine o_extract rfl rfl rfl ?_
  refine o_assign rfl ?_
  refine o_assign rfl ?_
  refine o_nil ?_
  refine k_seq ?_
  refine k_seq (k_region ?_)
  refine o_move rfl ?_
  refine o_neq rfl rfl rfl ?_
  refine o_nil ?_
  refine k_cT rfl (decide_eq_true (by decide : (22 : Int) ≠ 0)) ?_
  refine k_seq (k_region ?_)
  refine o_move rfl ?_
  refine o_assign rfl ?_
  refine o_assign rfl ?_
  refine o_nil ?_
  refine k_ret ?_
  refine ⟨.inr rfl, _, .cons _ _ _ _ (.tmp 2) (.cons _ _ _ _ (.tmp 3) .nil), ?_⟩
  exact .refl _

set_option maxHeartbeats 4000000 in
theorem ret21q (hi : Off is) {b : Bk} (hb : Ok b) (n : Int) (hn : ¬ (0 ≤ n ∧ n ≤ 300)) : RetP Tryz.prog is orc 21 [b.u, .int .i64 n] (.tup [spanU 0 0, spanU 0 0, .int .i64 21]) := by
  refine ret_of body21 pure21 (hi 21 (by decide)) rfl rfl (dat_l2 (dat_bk b 5) (.int _ _ _)) (.inr ⟨_, rfl, dat_l3 (dat_span _ _ _) (dat_span _ _ _) (.int _ _ _)⟩) ?_
  have hv : checkR b = 0 := by unfold checkR; rw [ok_valid hb]; rfl
  have h45 : RetP Tryz.prog is orc 45 [b.u] (.int .i64 0) := by have := ret45 (orc := orc) hi b; rwa [hv] at this
  have h28 : RetP Tryz.prog is orc 28 [.int .i64 n, .int .i64 0, .int .i64 300] (.bool false) := by have := ret28 (orc := orc) hi n 0 300; rwa [notin hn] at this
  refine k_seq (k_region ?_)
  refine o_box rfl rfl ?_
  refine o_alloc rfl ze24 ?_
  refine o_alloc rfl ze24 ?_
  refine o_assign rfl ?_
  refine o_nil ?_
  refine k_seq ?_
  refine k_seq (k_region ?_)
  refine o_loadN rfl rfl rfl sh28 rfl ?_
  refine o_call rfl (h45) (.lrefl _) ?_
  refine o_assign rfl ?_
  refine o_nil ?_
  refine k_seq (k_region ?_)
  refine o_move rfl ?_
  refine o_neq rfl rfl rfl ?_
  refine o_nil ?_
  refine k_cF rfl (decide_eq_false (fun h => h rfl)) ?_
  refine k_skip ?_
  refine k_seq ?_
  refine k_seq (k_region ?_)
  refine o_move rfl ?_
  refine o_call rfl (h28) (.lrefl _) ?_
  refine o_not rfl rfl ?_
  refine o_nil ?_
  refine k_cT rfl rfl ?_
  refine k_seq (k_region ?_)
  refine o_build (cs := [.int .i64 0, .int .i64 0]) rfl ze24 pl24 rfl rfl ?_
  refine o_build (cs := [.int .i64 0, .int .i64 0]) rfl ze24 pl24 rfl rfl ?_
  refine o_storeN rfl rfl sh24 rfl rfl rfl rfl rfl ?_
  refine o_storeN rfl rfl sh24 rfl rfl rfl rfl rfl ?_
  refine o_assign rfl ?_
  refine o_nil ?_
  refine k_ret ?_
  refine ⟨.inr rfl, _, .cons _ _ _ _ (.cellN 4 24 _ _ _ _ rfl rfl sh24 rfl) (.cons _ _ _ _ (.cellN 5 24 _ _ _ _ rfl rfl sh24 rfl) (.cons _ _ _ _ (.tmp 6) .nil)), ?_⟩
  exact .refl _

set_option maxHeartbeats 4000000 in
theorem ret21k (hi : Off is) {b : Bk} (hb : Ok b) (n : Int) (hn : 0 ≤ n ∧ n ≤ 300) : RetP Tryz.prog is orc 21 [b.u, .int .i64 n] (.tup [spanU (hat b n b.clo) (hat b n b.chi), spanU (hat b n b.clo * b.coal) (hat b n b.chi * b.coal), .int .i64 0]) := by
  refine ret_of body21 pure21 (hi 21 (by decide)) rfl rfl (dat_l2 (dat_bk b 5) (.int _ _ _)) (.inr ⟨_, rfl, dat_l3 (dat_span _ _ _) (dat_span _ _ _) (.int _ _ _)⟩) ?_
  have hv : checkR b = 0 := by unfold checkR; rw [ok_valid hb]; rfl
  have h45 : RetP Tryz.prog is orc 45 [b.u] (.int .i64 0) := by have := ret45 (orc := orc) hi b; rwa [hv] at this
  have h28 : RetP Tryz.prog is orc 28 [.int .i64 n, .int .i64 0, .int .i64 300] (.bool true) := by have := ret28 (orc := orc) hi n 0 300; rwa [isin hn] at this
  have hc := hb.coal; have hl := hb.cool
  have w1 : 0 ≤ hat b n b.clo ∧ hat b n b.clo ≤ 300 := by have := hat_b hb (d := b.clo) (by omega) hn.1; omega
  have w2 : 0 ≤ hat b n b.chi ∧ hat b n b.chi ≤ 300 := by have := hat_b hb (d := b.chi) (by omega) hn.1; omega
  refine k_seq (k_region ?_)
  refine o_box rfl rfl ?_
  refine o_alloc rfl ze24 ?_
  refine o_alloc rfl ze24 ?_
  refine o_assign rfl ?_
  refine o_nil ?_
  refine k_seq ?_
  refine k_seq (k_region ?_)
  refine o_loadN rfl rfl rfl sh28 rfl ?_
  refine o_call rfl (h45) (.lrefl _) ?_
  refine o_assign rfl ?_
  refine o_nil ?_
  refine k_seq (k_region ?_)
  refine o_move rfl ?_
  refine o_neq rfl rfl rfl ?_
  refine o_nil ?_
  refine k_cF rfl (decide_eq_false (fun h => h rfl)) ?_
  refine k_skip ?_
  refine k_seq ?_
  refine k_seq (k_region ?_)
  refine o_move rfl ?_
  refine o_call rfl (h28) (.lrefl _) ?_
  refine o_not rfl rfl ?_
  refine o_nil ?_
  refine k_cF rfl rfl ?_
  refine k_skip ?_
  refine k_seq ?_
  refine k_draw [.read true, .plain, .plain, .plain, .read true, .read false, .read true, .plain, .plain, .plain, .read true, .read false, .read false, .pre, .plain] (by kernel_rfl) (by kernel_rfl) (by kernel_rfl) ?_
  refine d_load rfl (o_loadN rfl rfl rfl sh28 rfl (o_nil rfl)) ?_
  refine d_plain (o_move rfl (o_nil rfl)) ?_
  refine d_plain (o_faddr rfl rfl fld28_8 (o_nil rfl)) ?_
  refine d_plain (o_faddr rfl rfl fld24_0 (o_nil rfl)) ?_
  refine d_load rfl (o_load1 rfl rfl rfl sh3 rfl (o_nil rfl)) ?_
  refine d_callR rfl (ret57 hi hb n b.clo (by omega) hn) (flat_int _) (.lrefl _) ?_
  refine d_load rfl (o_loadN rfl rfl rfl sh28 rfl (o_nil rfl)) ?_
  refine d_plain (o_move rfl (o_nil rfl)) ?_
  refine d_plain (o_faddr rfl rfl fld28_8 (o_nil rfl)) ?_
  refine d_plain (o_faddr rfl rfl fld24_1 (o_nil rfl)) ?_
  refine d_load rfl (o_load1 rfl rfl rfl sh3 rfl (o_nil rfl)) ?_
  refine d_callR rfl (ret57 hi hb n b.chi (by omega) hn) (flat_int _) (.lrefl _) ?_
  refine d_callR rfl (ret31 hi (hat b n b.clo) (hat b n b.chi)) (flat_span _ _) (.lrefl _) ?_
  refine d_pre rfl ze24 ?_
  refine d_plain (o_storeN rfl rfl sh24 rfl rfl rfl rfl rfl (o_nil rfl)) ?_
  refine d_nil ?_
  refine k_seq ?_
  refine k_draw [.read true, .plain, .read true, .plain, .read true, .plain, .plain, .read true, .plain, .read true, .plain, .read false, .plain, .plain, .plain] (by kernel_rfl) (by kernel_rfl) (by kernel_rfl) ?_
  refine d_load rfl (o_loadN rfl rfl rfl sh24 rfl (o_nil rfl)) ?_
  refine d_plain (o_faddr rfl rfl fld24_0 (o_nil rfl)) ?_
  refine d_load rfl (o_load1 rfl rfl rfl sh3 rfl (o_nil rfl)) ?_
  refine d_plain (o_faddr rfl rfl fld28_9 (o_nil rfl)) ?_
  refine d_load rfl (o_load1 rfl rfl rfl sh3 rfl (o_nil rfl)) ?_
  refine d_plain (o_mul rfl rfl rfl (mul64 hc w1) (o_nil rfl)) ?_
  refine d_plain (o_faddr rfl rfl fld24_1 (o_nil rfl)) ?_
  refine d_load rfl (o_load1 rfl rfl rfl sh3 rfl (o_nil rfl)) ?_
  refine d_plain (o_faddr rfl rfl fld28_9 (o_nil rfl)) ?_
  refine d_load rfl (o_load1 rfl rfl rfl sh3 rfl (o_nil rfl)) ?_
  refine d_plain (o_mul rfl rfl rfl (mul64 hc w2) (o_nil rfl)) ?_
  refine d_callR rfl (ret31 hi (hat b n b.clo * b.coal) (hat b n b.chi * b.coal)) (flat_span _ _) (.lrefl _) ?_
  refine d_plain (o_storeN rfl rfl sh24 rfl rfl rfl rfl rfl (o_nil rfl)) ?_
  refine d_plain (o_storeN rfl rfl sh24 rfl rfl rfl rfl rfl (o_nil rfl)) ?_
  refine d_plain (o_assign rfl (o_nil rfl)) ?_
  refine d_nil ?_
  refine k_ret ?_
  refine ⟨.inr rfl, _, .cons _ _ _ _ (.cellN 4 24 _ _ _ _ rfl rfl sh24 rfl) (.cons _ _ _ _ (.cellN 5 24 _ _ _ _ rfl rfl sh24 rfl) (.cons _ _ _ _ (.tmp 6) .nil)), ?_⟩
  exact .refl _

theorem span_eql (a b : Int) : binV Tryz.prog 24 .eql (valK (spanU a b)) (valK (spanU a b)) = some (.bool true) := by
  have h : binV Tryz.prog 24 .eql (valK (spanU a b)) (valK (spanU a b)) = opt none (fun x => some (V.bool x)) (Vam.cond (ieq a a) (Vam.cond (ieq b b) (some true) (some false)) (some false)) := by kernel_rfl
  rw [h, ieq_eq, ieq_eq, show (a == a) = true by simp, show (b == b) = true by simp]; rfl

-- 4 saron/saronlaw02.ForgeBlows params [28, 3] pure True
noncomputable def b4 : Code := (Tryz.f4.body).getD .skip
theorem body4 : bodyOf Tryz.prog 4 = some (79, b4, [.tmp 4]) := by kernel_rfl
theorem pure4 : pureFn Tryz.prog 4 = true := by kernel_rfl
set_option maxHeartbeats 4000000 in
theorem ret4 (hi : Off is) {b : Bk} (n : Int) {x1 e1 x2 e2 s1 s2 c1 c2 g : Int} (r8 : RetP Tryz.prog is orc 15 [] (.bool true)) (h1 : RetP Tryz.prog is orc 16 [b.u] (.tup [.int .i64 x1, .int .i64 e1])) (h2 : RetP Tryz.prog is orc 17 [b.u] (.tup [.int .i64 x1, .int .i64 e1])) (h3 : RetP Tryz.prog is orc 18 [b.u] (.tup [.int .i64 x2, .int .i64 e2])) (h4 : RetP Tryz.prog is orc 19 [b.u] (.tup [.int .i64 x2, .int .i64 e2])) (h5 : RetP Tryz.prog is orc 20 [b.u, .int .i64 n] (.tup [spanU s1 s2, spanU c1 c2, .int .i64 g])) (h6 : RetP Tryz.prog is orc 21 [b.u, .int .i64 n] (.tup [spanU s1 s2, spanU c1 c2, .int .i64 g])) : RetP Tryz.prog is orc 4 [b.u, .int .i64 n] (.bool true) := by
  refine ret_of body4 pure4 (hi 4 (by decide)) rfl rfl (dat_l2 (dat_bk b 5) (.int _ _ _)) (.inl (.bool _ _)) ?_
  refine k_seq (k_region ?_)
  refine o_box rfl rfl ?_
  refine o_assign rfl ?_
  refine o_nil ?_
  refine k_seq (k_region ?_)
  refine o_loadN rfl rfl rfl sh28 rfl ?_
  refine o_call rfl (h1) (.lrefl _) ?_
  refine o_move rfl ?_
  refine o_extract rfl rfl rfl ?_
  refine o_extract rfl rfl rfl ?_
  refine o_assign rfl ?_
  refine o_assign rfl ?_
  refine o_nil ?_
  refine k_seq (k_region ?_)
  refine o_loadN rfl rfl rfl sh28 rfl ?_
  refine o_call rfl (h2) (.lrefl _) ?_
  refine o_move rfl ?_
  refine o_extract rfl rfl rfl ?_
  refine o_extract rfl rfl rfl ?_
  refine o_assign rfl ?_
  refine o_assign rfl ?_
  refine o_nil ?_
  refine k_seq ?_
  refine k_seq (k_region ?_)
  refine o_move rfl ?_
  refine o_move rfl ?_
  refine o_neq rfl rfl rfl ?_
  refine o_move rfl ?_
  refine o_gD rfl rfl rfl rfl (decide_eq_false (fun h => h rfl)) ?_
  refine o_move rfl ?_
  refine o_gD rfl rfl rfl rfl (decide_eq_false (fun h => h rfl)) ?_
  refine o_move rfl ?_
  refine o_gD rfl rfl rfl rfl (decide_eq_false (fun h => h rfl)) ?_
  refine o_neq rfl rfl rfl ?_
  refine o_pickF rfl rfl (decide_eq_false (fun h => h rfl)) ?_
  refine o_nil ?_
  refine k_cF rfl (decide_eq_false (fun h => h rfl)) ?_
  refine k_skip ?_
  refine k_gen [(1, .int .i64 n), (2, .box 0 0)] [.box b.cs] (.cons rfl (.cons rfl (.nil rfl))) rfl fun fr => ?_
  refine k_seq (k_region ?_)
  refine o_loadN rfl rfl rfl sh28 rfl ?_
  refine o_call rfl (h3) (.lrefl _) ?_
  refine o_move rfl ?_
  refine o_extract rfl rfl rfl ?_
  refine o_extract rfl rfl rfl ?_
  refine o_assign rfl ?_
  refine o_assign rfl ?_
  refine o_nil ?_
  refine k_seq (k_region ?_)
  refine o_loadN rfl rfl rfl sh28 rfl ?_
  refine o_call rfl (h4) (.lrefl _) ?_
  refine o_move rfl ?_
  refine o_extract rfl rfl rfl ?_
  refine o_extract rfl rfl rfl ?_
  refine o_assign rfl ?_
  refine o_assign rfl ?_
  refine o_nil ?_
  refine k_seq ?_
  refine k_seq (k_region ?_)
  refine o_move rfl ?_
  refine o_move rfl ?_
  refine o_neq rfl rfl rfl ?_
  refine o_move rfl ?_
  refine o_gD rfl rfl rfl rfl (decide_eq_false (fun h => h rfl)) ?_
  refine o_move rfl ?_
  refine o_gD rfl rfl rfl rfl (decide_eq_false (fun h => h rfl)) ?_
  refine o_move rfl ?_
  refine o_gD rfl rfl rfl rfl (decide_eq_false (fun h => h rfl)) ?_
  refine o_neq rfl rfl rfl ?_
  refine o_pickF rfl rfl (decide_eq_false (fun h => h rfl)) ?_
  refine o_nil ?_
  refine k_cF rfl (decide_eq_false (fun h => h rfl)) ?_
  refine k_skip ?_
  refine k_gen [(1, .int .i64 n), (2, .box 0 0)] [.box b.cs] (.cons rfl (.cons rfl (.nil rfl))) rfl fun fr => ?_
  refine k_seq (k_region ?_)
  refine o_loadN rfl rfl rfl sh28 rfl ?_
  refine o_move rfl ?_
  refine o_call rfl (h5) (.lrefl _) ?_
  refine o_move rfl ?_
  refine o_extract rfl rfl rfl ?_
  refine o_extract rfl rfl rfl ?_
  refine o_extract rfl rfl rfl ?_
  refine o_alloc rfl ze24 ?_
  refine o_alloc rfl ze24 ?_
  refine o_storeN rfl rfl sh24 rfl rfl rfl rfl rfl ?_
  refine o_storeN rfl rfl sh24 rfl rfl rfl rfl rfl ?_
  refine o_assign rfl ?_
  refine o_nil ?_
  refine k_gen [(1, .int .i64 n), (2, .box 0 0), (6, .int .i64 g), (9, .box 1 0), (10, .box 2 0)] [.box b.cs, .box [.int .i64 s1, .int .i64 s2], .box [.int .i64 c1, .int .i64 c2]] (.cons rfl (.cons rfl (.cons rfl (.cons rfl (.cons rfl (.nil rfl)))))) rfl fun fr => ?_
  refine k_seq (k_region ?_)
  refine o_loadN rfl rfl rfl sh28 rfl ?_
  refine o_move rfl ?_
  refine o_call rfl (h6) (.lrefl _) ?_
  refine o_move rfl ?_
  refine o_extract rfl rfl rfl ?_
  refine o_extract rfl rfl rfl ?_
  refine o_extract rfl rfl rfl ?_
  refine o_alloc rfl ze24 ?_
  refine o_alloc rfl ze24 ?_
  refine o_storeN rfl rfl sh24 rfl rfl rfl rfl rfl ?_
  refine o_storeN rfl rfl sh24 rfl rfl rfl rfl rfl ?_
  refine o_assign rfl ?_
  refine o_nil ?_
  refine k_gen [(6, .int .i64 g), (8, .int .i64 g), (9, .box 1 0), (10, .box 2 0), (11, .box 3 0), (12, .box 4 0)] [.box b.cs, .box [.int .i64 s1, .int .i64 s2], .box [.int .i64 c1, .int .i64 c2], .box [.int .i64 s1, .int .i64 s2], .box [.int .i64 c1, .int .i64 c2]] (.cons rfl (.cons rfl (.cons rfl (.cons rfl (.cons rfl (.cons rfl (.nil rfl))))))) rfl fun fr => ?_
  refine k_seq (k_region ?_)
  refine o_loadN rfl rfl rfl sh24 rfl ?_
  refine o_loadN rfl rfl rfl sh24 rfl ?_
  refine o_binK rfl rfl rfl rfl rfl (span_eql _ _) ?_
  refine o_move rfl ?_
  refine o_gD rfl rfl rfl rfl rfl ?_
  refine o_loadN rfl rfl rfl sh24 rfl ?_
  refine o_gD rfl rfl rfl rfl rfl ?_
  refine o_loadN rfl rfl rfl sh24 rfl ?_
  refine o_gD rfl rfl rfl rfl rfl ?_
  refine o_binK rfl rfl rfl rfl rfl (span_eql _ _) ?_
  refine o_pickT rfl rfl rfl ?_
  refine o_move rfl ?_
  refine o_gD rfl rfl rfl rfl rfl ?_
  refine o_move rfl ?_
  refine o_gD rfl rfl rfl rfl rfl ?_
  refine o_move rfl ?_
  refine o_gD rfl rfl rfl rfl rfl ?_
  refine o_eql rfl rfl rfl ?_
  refine o_pickT rfl rfl rfl ?_
  refine o_move rfl ?_
  refine o_gD rfl rfl rfl rfl (decide_eq_true rfl) ?_
  refine o_call rfl (r8) (.lrefl _) ?_
  refine o_pickT rfl rfl (decide_eq_true rfl) ?_
  refine o_assign rfl ?_
  refine o_nil ?_
  refine k_ret ?_
  refine ⟨.inr rfl, _, .cons _ _ _ _ (.tmp 4) .nil, ?_⟩
  exact .refl _

theorem ret4_ok (hi : Off is) {b : Bk} (hb : Ok b) (n : Int) (r8 : RetP Tryz.prog is orc 15 [] (.bool true)) : RetP Tryz.prog is orc 4 [b.u, .int .i64 n] (.bool true) := by
  by_cases hn : 0 ≤ n ∧ n ≤ 300
  · cases hT : trs b with
    | nil => exact ret4 hi n r8 (ret16n hi hb hT) (ret17n hi hb hT) (ret18n hi hb hT) (ret19n hi hb hT) (ret20 hi hb n hn) (ret21k hi hb n hn)
    | cons q l => exact ret4 hi n r8 (ret16 hi hb hT) (ret17 hi hb hT) (ret18 hi hb hT) (ret19 hi hb hT) (ret20 hi hb n hn) (ret21k hi hb n hn)
  · cases hT : trs b with
    | nil => exact ret4 hi n r8 (ret16n hi hb hT) (ret17n hi hb hT) (ret18n hi hb hT) (ret19n hi hb hT) (ret20q hi hb n hn) (ret21q hi hb n hn)
    | cons q l => exact ret4 hi n r8 (ret16 hi hb hT) (ret17 hi hb hT) (ret18 hi hb hT) (ret19 hi hb hT) (ret20q hi hb n hn) (ret21q hi hb n hn)
set_option linter.constructorNameAsVariable false
theorem shp_argsR {us : List U} (h : ShpAs Tryz.prog [28, 3] us) : ∃ (b : Bk) (n : Int), us = [b.u, .int .i64 n] := by
  cases h with
  | cons _ _ u us h1 h2 =>
    cases h2 with
    | cons _ _ v vs h3 h4 =>
      cases h4
      obtain ⟨fs, hu⟩ := und_struct (P := Tryz.prog) (t := 28) 11 (by kernel_rfl)
      unfold ShpA at h1 h3
      rw [hu] at h1
      rw [u3] at h3
      obtain ⟨cs, rfl, h1⟩ := h1
      obtain ⟨b, rfl⟩ := shp_book h1
      obtain ⟨n, e⟩ := shp_int h3
      cases e
      exact ⟨b, n, rfl⟩
theorem ret4_all (hi : Off is) (r8 : RetP Tryz.prog is orc 15 [] (.bool true)) : ∀ us, ShpAs Tryz.prog [28, 3] us → RetP Tryz.prog is orc 4 us (.bool true) := by
  intro us h
  obtain ⟨b, n, rfl⟩ := shp_argsR h
  by_cases hv : checkR b ≠ 0
  · exact ret4 hi n r8 (ret16i hi hv) (ret17i hi hv) (ret18i hi hv) (ret19i hi hv) (ret20i hi hv n) (ret21i hi hv n)
  · exact ret4_ok hi (checkR_ok hv) n r8
end Go.Proofs.YtniplfmjbjjocaaGreat.forgeBlows
