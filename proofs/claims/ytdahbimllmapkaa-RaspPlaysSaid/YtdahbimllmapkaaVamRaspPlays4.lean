/- rasp's functions and the law's, by the logic of trees: what each gives back for all that it may be given. -/
import Derived.Test.YtdahbimllmapkaaVamRaspPlays3
namespace Go.Proofs.Ytdahbimllmapkaa.raspPlays
open Vam
set_option linter.unusedVariables false
set_option linter.unusedSimpArgs false
set_option linter.constructorNameAsVariable false
variable {is : FuncId → Bool} {orc : Known}
theorem fld89_0 : fieldOf Try.prog 89 0 = some (0, 38) := by kernel_rfl
theorem sh38 : shOf Try.prog 38 = .one := by kernel_rfl
noncomputable def b56 : Code := (Try.f56.body).getD .skip
theorem body56 : bodyOf Try.prog 56 = some (14, b56, [.tmp 4]) := by kernel_rfl
theorem pure56 : pureFn Try.prog 56 = true := by kernel_rfl
theorem sh89 : shOf Try.prog 89 = .many 1 := by kernel_rfl
noncomputable def b69 : Code := (Try.f69.body).getD .skip
theorem body69 : bodyOf Try.prog 69 = some (38, b69, [.tmp 8]) := by kernel_rfl
theorem pure69 : pureFn Try.prog 69 = true := by kernel_rfl
theorem cl89 : Program.cellsOf Try.prog 89 = 1 := by kernel_rfl
theorem ty84 : tyOf Try.prog 84 = .slice 89 := by kernel_rfl
noncomputable def b51 : Code := (Try.f51.body).getD .skip
theorem body51 : bodyOf Try.prog 51 = some (61, b51, [.tmp 10, .tmp 11]) := by kernel_rfl
theorem pure51 : pureFn Try.prog 51 = true := by kernel_rfl
def nv (x : Int) : Int := if x = 31 then 1000 else x
def rowL (s : Shop) (w : Bool) (m : Int) : List Int := (List.range 121).map fun j : Nat => nv (cho s w ((j : Int) - 60) m).2
abbrev rowU (l : List Int) : U := .agg [.lst .ro 1 (intsU l)]
theorem row_at (s : Shop) (w : Bool) (m off : Int) (h : -60 ≤ off ∧ off ≤ 60) : (rowL s w m)[(off + 60).toNat]? = some (nv (cho s w off m).2) := by
  unfold rowL
  rw [List.getElem?_map, List.getElem?_range (by omega)]
  show some (nv (cho s w ((((off + 60).toNat : Nat) : Int) - 60) m).2) = _
  rw [show (((off + 60).toNat : Nat) : Int) - 60 = off by omega]
theorem cho_far {s : Shop} (hk : SOk s) {w : Bool} {off m : Int} (h0 : 0 ≤ m) (h : offB off = false) : cho s w off m = (-1, 31) := by
  rw [cho_eq hk h0]
  have hf := hk.fine
  have : ¬ fineB s off = true := fun e => by
    unfold fineB at e; unfold offB at h
    simp at e h; omega
  rw [if_neg this, if_neg (by rw [h]; decide)]
theorem nv_b {x : Int} (h : 0 ≤ x ∧ x ≤ 31) : 0 ≤ nv x ∧ nv x ≤ 1000 := by unfold nv; split <;> omega
theorem nv_max {x y : Int} (hx : 0 ≤ x ∧ x ≤ 31) (hy : 0 ≤ y ∧ y ≤ 31) : max (nv x) (nv y) = nv (max x y) := by unfold nv; split <;> split <;> split <;> omega
theorem nv_min {x y : Int} (hx : 0 ≤ x ∧ x ≤ 31) (hy : 0 ≤ y ∧ y ≤ 31) : min (nv x) (nv y) = nv (min x y) := by unfold nv; split <;> split <;> split <;> omega
theorem cntL_snoc (w : Bool) (l : List Int) (x : Int) : cntL w (l ++ [x]) = if w then max (cntL w l) x else min (cntL w l) x := by
  cases w <;> (unfold cntL; simp [List.foldl_append])
set_option maxHeartbeats 4000000 in
theorem ret56 (hi : Off is) {s : Shop} (hk : SOk s) {w : Bool} {m off : Int} (hm : 0 ≤ m) : RetP Try.prog is orc 56 [rowU (rowL s w m), .int .i64 off] (.int .i64 (nv (cho s w off m).2)) := by
  have q34 := ret34 (orc := orc) hi off (-60) 60
  by_cases h : offB off = true
  · have h' : (decide (-60 ≤ off) && decide (off ≤ 60)) = true := h
    rw [h'] at q34
    have hb : -60 ≤ off ∧ off ≤ 60 := by simpa using h'
    have hx := row_at s w m off hb
    refine ret_of body56 pure56 (hi 56 (by decide)) rfl rfl (dat_l2 (.agg _ _ (dat_l1 (dat_ints 5 .ro (fun h => by cases h) 1 _))) (.int _ _ _)) (.inl (.int _ _ _)) ?_
    refine k_seq (k_region ?_)
    refine o_box rfl rfl ?_
    refine o_assign rfl ?_
    refine o_nil ?_
    refine k_gen [(1, .int .i64 off), (2, U.box 0 0)] ([SB.box [U.lst Kd.ro 1 (intsU (rowL s w m))]]) (.cons rfl (.cons rfl (.nil rfl))) rfl fun fr => ?_
    refine k_seq ?_
    refine k_seq (k_region ?_)
    refine o_move rfl ?_
    refine o_call rfl (q34) (.lrefl _) ?_
    refine o_not rfl rfl ?_
    refine o_nil ?_
    refine k_cF rfl rfl ?_
    refine k_skip ?_
    refine k_seq (k_region ?_)
    refine o_faddr rfl rfl fld89_0 ?_
    refine o_load1 rfl rfl rfl sh38 rfl ?_
    refine o_move rfl ?_
    refine o_add rfl rfl rfl (by unfold I64; omega) ?_
    refine o_idx (u := .int .i64 (nv (Prod.snd (cho s w off m)))) rfl ty38 rfl rfl (by omega) (by simp [hx]) cl3 ?_
    refine o_loadR1 rfl rfl sh3 rfl ?_
    refine o_assign rfl ?_
    refine o_nil ?_
    refine k_ret ?_
    refine ⟨.inr rfl, _, .cons _ _ _ _ (.tmp 4) .nil, ?_⟩
    exact .refl _
  · have h : offB off = false := by rw [← Bool.not_eq_true]; exact h
    have h' : (decide (-60 ≤ off) && decide (off ≤ 60)) = false := h
    rw [h'] at q34
    rw [cho_far hk hm h]
    refine ret_of body56 pure56 (hi 56 (by decide)) rfl rfl (dat_l2 (.agg _ _ (dat_l1 (dat_ints 5 .ro (fun h => by cases h) 1 _))) (.int _ _ _)) (.inl (.int _ _ _)) ?_
    refine k_seq (k_region ?_)
    refine o_box rfl rfl ?_
    refine o_assign rfl ?_
    refine o_nil ?_
    refine k_gen [(1, .int .i64 off), (2, U.box 0 0)] ([SB.box [U.lst Kd.ro 1 (intsU (rowL s w m))]]) (.cons rfl (.cons rfl (.nil rfl))) rfl fun fr => ?_
    refine k_seq ?_
    refine k_seq (k_region ?_)
    refine o_move rfl ?_
    refine o_call rfl (q34) (.lrefl _) ?_
    refine o_not rfl rfl ?_
    refine o_nil ?_
    refine k_cT rfl rfl ?_
    refine k_seq (k_region ?_)
    refine o_assign rfl ?_
    refine o_nil ?_
    refine k_ret ?_
    refine ⟨.inr rfl, _, .cons _ _ _ _ (.tmp 4) .nil, ?_⟩
    exact .refl _
abbrev recC (s : Shop) (w : Bool) : Int → Int → Int := fun o m => (cho s w o m).2
set_option maxHeartbeats 4000000 in
theorem ret69 (hi : Off is) {s : Shop} (hk : SOk s) {w : Bool} {off metal : Int} {t : Tri} (ht : t ∈ s.tools) (hm : 0 ≤ metal - t.c) (ho : -60 ≤ off ∧ off ≤ 60) : RetP Try.prog is orc 69 [rowU (rowL s w (metal - t.c)), t.u, .int .i64 off, .bool w] (.int .i64 (nv (cntL w (hitL (recC s w) off metal t (widM t))))) := by
  have hb := hk.tools t ht
  have hbb : ∀ j, ∀ x ∈ hitL (recC s w) off metal t j, 0 ≤ x ∧ x ≤ 31 := fun j => hit_bd (fun o m => ⟨(cho_b s w o m).1, (cho_b s w o m).2.1⟩) off metal t j
  have h1b := fun o => nv_b ⟨(cho_b s w o (metal - t.c)).1, (cho_b s w o (metal - t.c)).2.1⟩
  refine ret_of body69 pure69 (hi 69 (by decide)) rfl rfl (fun v hv => by
    simp only [List.mem_cons, List.not_mem_nil, or_false] at hv
    rcases hv with rfl | rfl | rfl | rfl
    · exact .agg _ _ (dat_l1 (dat_ints 5 .ro (fun h => by cases h) 1 _))
    · exact .agg _ _ (dat_l3 (.int _ _ _) (.int _ _ _) (.int _ _ _))
    · exact .int _ _ _
    · exact .bool _ _) (.inl (.int _ _ _)) ?_
  cases w with
  | true =>
    refine k_seq (k_region ?_)
    refine o_box rfl rfl ?_
    refine o_box rfl rfl ?_
    refine o_assign rfl ?_
    refine o_nil ?_
    refine k_gen [(2, .int .i64 off), (3, U.bool Bool.true), (4, U.box 0 0), (5, U.box 1 0)] ([SB.box [U.lst Kd.ro 1 (intsU (rowL s Bool.true (metal - Tri.c t)))], SB.box [.int .i64 (Tri.a t), .int .i64 (Tri.b t), .int .i64 (Tri.c t)]]) (.cons rfl (.cons rfl (.cons rfl (.cons rfl (.nil rfl))))) rfl fun fr => ?_
    refine k_seq (k_region ?_)
    refine o_assign rfl ?_
    refine o_nil ?_
    refine k_seq ?_
    refine k_seq (k_region ?_)
    refine o_move rfl ?_
    refine o_nil ?_
    refine k_cT rfl rfl ?_
    refine k_region ?_
    refine o_assign rfl ?_
    refine o_nil ?_
    refine k_seq ?_
    refine k_seq (k_region ?_)
    refine o_faddr rfl rfl fld52_0 ?_
    refine o_faddr rfl rfl fld24_0 ?_
    refine o_load1 rfl rfl rfl sh3 rfl ?_
    refine o_assign rfl ?_
    refine o_nil ?_
    refine k_block ?_
    refine k_loop (fun kk st => ∃ (j : Nat), kk + j = widM t ∧ st.st = [.box [.lst .ro 1 (intsU (rowL s true (metal - t.c)))], .box [.int .i64 t.a, .int .i64 t.b, .int .i64 t.c]] ∧ Holds st [(2, .int .i64 off), (3, .bool true), (4, .box 0 0), (5, .box 1 0), (9, .int .i64 (nv (cntL true (hitL (recC s true) off metal t j)))), (10, .int .i64 (t.a + j))]) (fun kk st hI => ?_) (widM t) _ ?_
    · obtain ⟨j, hkj, hst, hs⟩ := hI
      refine k_gen _ _ hs hst fun fr => ?_
      have hw : (widM t : Int) = t.b - t.a + 1 := by unfold widM; omega
      have hc := nv_b (cnt_b (w := true) (hbb j))
      refine k_seq ?_
      refine k_seq (k_region ?_)
      refine o_move rfl ?_
      refine o_faddr rfl rfl fld52_0 ?_
      refine o_faddr rfl rfl fld24_1 ?_
      refine o_load1 rfl rfl rfl sh3 rfl ?_
      refine o_leq rfl rfl rfl ?_
      refine o_nil ?_
      refine k_cond rfl (fun h19 => ?_) (fun h19 => ?_)
      · refine k_skip ?_
        refine k_seq ?_
        refine k_block ?_
        refine k_seq (k_region ?_)
        refine o_move rfl ?_
        refine o_nil ?_
        refine k_cT rfl rfl ?_
        refine k_region ?_
        refine o_move rfl ?_
        refine o_loadN rfl rfl rfl sh89 rfl ?_
        refine o_move rfl ?_
        refine o_move rfl ?_
        refine o_add rfl rfl rfl (by unfold I64; omega) ?_
        refine o_call rfl (ret56 hi hk hm) (.lrefl _) ?_
        refine o_max rfl rfl rfl ?_
        refine o_assign rfl ?_
        refine o_nil ?_
        refine k_gen [(2, .int .i64 off), (3, U.bool Bool.true), (4, U.box 0 0), (5, U.box 1 0), (9, .int .i64 (Max.max (nv (cntL Bool.true (hitL (recC s Bool.true) off metal t j))) (nv (Prod.snd (cho s Bool.true (off + (Tri.a t + ↑j)) (metal - Tri.c t)))))), (10, .int .i64 (Tri.a t + ↑j))] ([SB.box [U.lst Kd.ro 1 (intsU (rowL s Bool.true (metal - Tri.c t)))], SB.box [.int .i64 (Tri.a t), .int .i64 (Tri.b t), .int .i64 (Tri.c t)]]) (.cons rfl (.cons rfl (.cons rfl (.cons rfl (.cons rfl (.cons rfl (.nil rfl))))))) rfl fun fr => ?_
        refine k_region ?_
        refine o_move rfl ?_
        refine o_add rfl rfl rfl (by unfold I64; omega) ?_
        refine o_assign rfl ?_
        refine o_nil ?_
        have hd := of_decide_eq_true h19
        refine ⟨kk - 1, by omega, j + 1, by omega, rfl, .cons rfl (.cons rfl (.cons rfl (.cons rfl (.cons (congrArg (U.int .i64) ?_) (.cons (congrArg (U.int .i64) (by omega)) (.nil rfl))))))⟩
        rw [hit_succ, cntL_snoc]
        exact (nv_max (cnt_b (hbb j)) ⟨(cho_b s true _ (metal - t.c)).1, (cho_b s true _ (metal - t.c)).2.1⟩)
      · refine k_exit ?_
        refine k_seq (k_region ?_)
        refine o_move rfl ?_
        refine o_assign rfl ?_
        refine o_nil ?_
        refine k_ret ?_
        refine ⟨.inr rfl, _, .cons _ _ _ _ (.tmp 8) .nil, ?_⟩
        have hd := of_decide_eq_false h19
        have hj : j = widM t := by omega
        subst hj
        exact .refl _
    · exact ⟨0, by omega, rfl, .cons rfl (.cons rfl (.cons rfl (.cons rfl (.cons rfl (.cons (congrArg (U.int .i64) (by omega)) (.nil rfl))))))⟩
  | false =>
    refine k_seq (k_region ?_)
    refine o_box rfl rfl ?_
    refine o_box rfl rfl ?_
    refine o_assign rfl ?_
    refine o_nil ?_
    refine k_gen [(2, .int .i64 off), (3, U.bool Bool.false), (4, U.box 0 0), (5, U.box 1 0)] ([SB.box [U.lst Kd.ro 1 (intsU (rowL s Bool.false (metal - Tri.c t)))], SB.box [.int .i64 (Tri.a t), .int .i64 (Tri.b t), .int .i64 (Tri.c t)]]) (.cons rfl (.cons rfl (.cons rfl (.cons rfl (.nil rfl))))) rfl fun fr => ?_
    refine k_seq (k_region ?_)
    refine o_assign rfl ?_
    refine o_nil ?_
    refine k_seq ?_
    refine k_seq (k_region ?_)
    refine o_move rfl ?_
    refine o_nil ?_
    refine k_cF rfl rfl ?_
    refine k_skip ?_
    refine k_seq ?_
    refine k_seq (k_region ?_)
    refine o_faddr rfl rfl fld52_0 ?_
    refine o_faddr rfl rfl fld24_0 ?_
    refine o_load1 rfl rfl rfl sh3 rfl ?_
    refine o_assign rfl ?_
    refine o_nil ?_
    refine k_block ?_
    refine k_loop (fun kk st => ∃ (j : Nat), kk + j = widM t ∧ st.st = [.box [.lst .ro 1 (intsU (rowL s false (metal - t.c)))], .box [.int .i64 t.a, .int .i64 t.b, .int .i64 t.c]] ∧ Holds st [(2, .int .i64 off), (3, .bool false), (4, .box 0 0), (5, .box 1 0), (9, .int .i64 (nv (cntL false (hitL (recC s false) off metal t j)))), (10, .int .i64 (t.a + j))]) (fun kk st hI => ?_) (widM t) _ ?_
    · obtain ⟨j, hkj, hst, hs⟩ := hI
      refine k_gen _ _ hs hst fun fr => ?_
      have hw : (widM t : Int) = t.b - t.a + 1 := by unfold widM; omega
      have hc := nv_b (cnt_b (w := false) (hbb j))
      refine k_seq ?_
      refine k_seq (k_region ?_)
      refine o_move rfl ?_
      refine o_faddr rfl rfl fld52_0 ?_
      refine o_faddr rfl rfl fld24_1 ?_
      refine o_load1 rfl rfl rfl sh3 rfl ?_
      refine o_leq rfl rfl rfl ?_
      refine o_nil ?_
      refine k_cond rfl (fun h19 => ?_) (fun h19 => ?_)
      · refine k_skip ?_
        refine k_seq ?_
        refine k_block ?_
        refine k_seq (k_region ?_)
        refine o_move rfl ?_
        refine o_nil ?_
        refine k_cF rfl rfl ?_
        refine k_region ?_
        refine o_move rfl ?_
        refine o_loadN rfl rfl rfl sh89 rfl ?_
        refine o_move rfl ?_
        refine o_move rfl ?_
        refine o_add rfl rfl rfl (by unfold I64; omega) ?_
        refine o_call rfl (ret56 hi hk hm) (.lrefl _) ?_
        refine o_min rfl rfl rfl ?_
        refine o_assign rfl ?_
        refine o_nil ?_
        refine k_gen [(2, .int .i64 off), (3, U.bool Bool.false), (4, U.box 0 0), (5, U.box 1 0), (9, .int .i64 (Min.min (nv (cntL Bool.false (hitL (recC s Bool.false) off metal t j))) (nv (Prod.snd (cho s Bool.false (off + (Tri.a t + ↑j)) (metal - Tri.c t)))))), (10, .int .i64 (Tri.a t + ↑j))] ([SB.box [U.lst Kd.ro 1 (intsU (rowL s Bool.false (metal - Tri.c t)))], SB.box [.int .i64 (Tri.a t), .int .i64 (Tri.b t), .int .i64 (Tri.c t)]]) (.cons rfl (.cons rfl (.cons rfl (.cons rfl (.cons rfl (.cons rfl (.nil rfl))))))) rfl fun fr => ?_
        refine k_region ?_
        refine o_move rfl ?_
        refine o_add rfl rfl rfl (by unfold I64; omega) ?_
        refine o_assign rfl ?_
        refine o_nil ?_
        have hd := of_decide_eq_true h19
        refine ⟨kk - 1, by omega, j + 1, by omega, rfl, .cons rfl (.cons rfl (.cons rfl (.cons rfl (.cons (congrArg (U.int .i64) ?_) (.cons (congrArg (U.int .i64) (by omega)) (.nil rfl))))))⟩
        rw [hit_succ, cntL_snoc]
        exact (nv_min (cnt_b (hbb j)) ⟨(cho_b s false _ (metal - t.c)).1, (cho_b s false _ (metal - t.c)).2.1⟩)
      · refine k_exit ?_
        refine k_seq (k_region ?_)
        refine o_move rfl ?_
        refine o_assign rfl ?_
        refine o_nil ?_
        refine k_ret ?_
        refine ⟨.inr rfl, _, .cons _ _ _ _ (.tmp 8) .nil, ?_⟩
        have hd := of_decide_eq_false h19
        have hj : j = widM t := by omega
        subst hj
        exact .refl _
    · exact ⟨0, by omega, rfl, .cons rfl (.cons rfl (.cons rfl (.cons rfl (.cons rfl (.cons (congrArg (U.int .i64) (by omega)) (.nil rfl))))))⟩
theorem grow {x : List SB} {e Y l : List SB} (hY : x ++ e = Y) : ∃ e', Y ++ l = x ++ e' := ⟨e ++ l, by rw [← hY, List.append_assoc]⟩
def bst (x : Int × Int) : U := .tup [.int .i64 x.1, .int .i64 (nv x.2)]
theorem cnt_few {rec : Int → Int → Int} {w : Bool} {off metal : Int} {t : Tri} (hb : ∀ o m, 0 ≤ rec o m ∧ rec o m ≤ 31) (hf : ∀ o, rec o (metal - t.c) = 31 ∨ rec o (metal - t.c) ≤ metal - t.c) (hm : metal ≤ 30) (hc : 1 ≤ t.c) :
    cntL w (hitL rec off metal t (widM t)) = 31 ∨ cntL w (hitL rec off metal t (widM t)) ≤ 29 := by
  have hcb := cnt_b (w := w) (hit_bd hb off metal t (widM t))
  have hx2 : ∀ x ∈ hitL rec off metal t (widM t), x = 31 ∨ x ≤ 29 := fun x h => by
    obtain ⟨d, _, _, rfl⟩ := hit_iff.1 h
    rcases hf (off + d) with h | h <;> omega
  cases w with
  | true =>
    by_cases h : ∀ x ∈ hitL rec off metal t (widM t), x ≤ 29
    · exact .inr (foldmax_le _ _ _ (by omega) h)
    · have : ∃ x ∈ hitL rec off metal t (widM t), x = 31 := by
        refine Classical.byContradiction fun hn => h fun x hx => ?_
        rcases hx2 x hx with e | e
        · exact absurd ⟨x, hx, e⟩ hn
        · exact e
      obtain ⟨x, hx, e⟩ := this
      have := foldmax_mem _ 0 x hx
      have h2 : List.foldl (fun a b => max a b) 0 (hitL rec off metal t (widM t)) ≤ 31 := hcb.2
      left
      show List.foldl _ 0 _ = _
      omega
  | false =>
    rcases foldmin_mem (hitL rec off metal t (widM t)) 31 with e | e
    · exact .inl e
    · exact hx2 _ e
theorem step_ref {rec : Int → Int → Int} {w : Bool} {off metal : Int} {tk : Int × Int} {i : Nat} {t : Tri} (hb : ∀ o m, 0 ≤ rec o m ∧ rec o m ≤ 31) (hf : t.c ≤ metal → ∀ o, rec o (metal - t.c) = 31 ∨ rec o (metal - t.c) ≤ metal - t.c) (hm : metal ≤ 30) (hc : 1 ≤ t.c) (hk : tk.2 ≤ 31) :
    stepT rec w off metal tk i t = if metal < t.c then tk else if nv (cntL w (hitL rec off metal t (widM t))) < 1000 ∧ nv (cntL w (hitL rec off metal t (widM t))) + 1 < nv tk.2 then ((i : Int), cntL w (hitL rec off metal t (widM t)) + 1) else tk := by
  have hcb := cnt_b (w := w) (hit_bd hb off metal t (widM t))
  unfold stepT
  by_cases h1 : metal < t.c
  · rw [if_pos h1, if_pos h1]
  · rw [if_neg h1, if_neg h1]
    have hfew := cnt_few (w := w) (off := off) hb (hf (by omega)) hm hc
    have hv : nv (cntL w (hitL rec off metal t (widM t))) < 1000 ↔ cntL w (hitL rec off metal t (widM t)) ≤ 29 := by unfold nv; split <;> omega
    have hlt : cntL w (hitL rec off metal t (widM t)) ≤ 29 → (nv (cntL w (hitL rec off metal t (widM t))) + 1 < nv tk.2 ↔ cntL w (hitL rec off metal t (widM t)) + 1 < tk.2) := fun h => by
      unfold nv; split <;> split <;> omega
    have hany : cntL w (hitL rec off metal t (widM t)) ≤ 29 → (w && (hitL rec off metal t (widM t)).any (fun x => decide (x = 31))) = false := fun h => by
      cases w with
      | false => rfl
      | true =>
        rw [Bool.true_and, List.any_eq_false]
        intro x hx e
        have e := of_decide_eq_true e
        have := foldmax_mem _ 0 x hx
        have h3 : List.foldl (fun a b => max a b) 0 (hitL rec off metal t (widM t)) ≤ 29 := h
        omega
    by_cases h29 : cntL w (hitL rec off metal t (widM t)) ≤ 29
    · rw [hany h29]
      by_cases h2 : cntL w (hitL rec off metal t (widM t)) + 1 < tk.2
      · rw [if_neg (by decide), if_pos h2, if_pos ⟨hv.2 h29, (hlt h29).2 h2⟩]
      · rw [if_neg (by decide), if_neg h2, if_neg fun e => h2 ((hlt h29).1 e.2)]
    · have hr : (if nv (cntL w (hitL rec off metal t (widM t))) < 1000 ∧ nv (cntL w (hitL rec off metal t (widM t))) + 1 < nv tk.2 then ((i : Int), cntL w (hitL rec off metal t (widM t)) + 1) else tk) = tk := if_neg fun e => h29 (hv.1 e.1)
      rw [hr]
      have h31 : cntL w (hitL rec off metal t (widM t)) = 31 := by omega
      by_cases h2 : (w && (hitL rec off metal t (widM t)).any (fun x => decide (x = 31))) = true
      · rw [if_pos h2]
      · rw [if_neg h2, if_neg (by omega)]
set_option maxHeartbeats 4000000 in
theorem ret51 (hi : Off is) {s : Shop} (hk : SOk s) {w : Bool} {off metal : Int} (ho : -60 ≤ off ∧ off ≤ 60) (hm : 0 ≤ metal ∧ metal ≤ 30) (L : List (List Int)) (hL : ∀ k : Nat, (k : Int) < metal → L[k]? = some (rowL s w k)) : RetP Try.prog is orc 51 [s.u, .lst .ro 1 (L.map rowU), .int .i64 off, .int .i64 metal, .bool w] (bst (cho s w off metal)) := by
  refine ret_of body51 pure51 (hi 51 (by decide)) rfl rfl (fun v hv => by
    simp only [List.mem_cons, List.not_mem_nil, or_false] at hv
    rcases hv with rfl | rfl | rfl | rfl | rfl
    · exact dat_shop s 5
    · refine .lst _ _ _ _ (fun h => by cases h) fun c hc => ?_
      obtain ⟨u, hu, hc⟩ := List.mem_flatMap.1 hc
      obtain ⟨l, _, rfl⟩ := List.mem_map.1 hu
      simp only [cellsU, List.mem_cons, List.not_mem_nil, or_false] at hc
      subst hc
      exact dat_ints 5 .ro (fun h => by cases h) 1 _
    · exact .int _ _ _
    · exact .int _ _ _
    · exact .bool _ _) (.inr ⟨_, rfl, dat_l2 (.int _ _ _) (.int _ _ _)⟩) ?_
  rw [cho_eq hk hm.1, if_pos (show offB off = true by unfold offB; simp; omega)]
  refine k_seq (k_region ?_)
  refine o_box rfl rfl ?_
  refine o_assign rfl ?_
  refine o_assign rfl ?_
  refine o_nil ?_
  refine k_gen [(1, U.lst Kd.ro 1 (List.map rowU L)), (2, .int .i64 off), (3, .int .i64 metal), (4, U.bool w), (5, U.box 0 0)] ([SB.box [U.lst Kd.ro 3 (trisU (Shop.tools s)), .int .i64 (Shop.flo s), .int .i64 (Shop.fhi s), U.lst Kd.ro 3 (trisU (Shop.keys s))]]) (.cons rfl (.cons rfl (.cons rfl (.cons rfl (.cons rfl (.nil rfl)))))) rfl fun fr => ?_
  refine k_seq ?_
  refine k_seq (k_region ?_)
  refine o_faddr rfl rfl fld27_1 ?_
  refine o_loadN rfl rfl rfl sh24 rfl ?_
  refine o_move rfl ?_
  refine o_call rfl (ret35 hi ..) (.lrefl _) ?_
  refine o_nil ?_
  refine k_cond rfl (fun h20 => ?_) (fun h20 => ?_)
  · refine k_seq (k_region ?_)
    refine o_assign rfl ?_
    refine o_assign rfl ?_
    refine o_nil ?_
    refine k_ret ?_
    refine ⟨.inr rfl, _, .cons _ _ _ _ (.tmp 10) (.cons _ _ _ _ (.tmp 11) .nil), ?_⟩
    have hf : fineB s off = true := h20
    rw [if_pos hf]; exact .refl _
  · refine k_skip ?_
    refine k_seq (k_region ?_)
    refine o_assign rfl ?_
    refine o_assign rfl ?_
    refine o_nil ?_
    refine k_seq ?_
    refine k_seq (k_region ?_)
    refine o_assign rfl ?_
    refine o_nil ?_
    refine k_block ?_
    have hf : ¬ fineB s off = true := fun e => by
      have h20 : fineB s off = false := h20
      rw [e] at h20; cases h20
    have hnt := hk.nt
    have b1 : ∀ o m, 0 ≤ recC s w o m ∧ recC s w o m ≤ 31 := fun o m => ⟨(cho_b s w o m).1, (cho_b s w o m).2.1⟩
    refine k_loop (fun kk st => ∃ (i : Nat) (c1 c2 : Int), kk + i = s.tools.length ∧ takeT s.tools (recC s w) w off metal i = (c1, c2) ∧ (∃ e, st.st = [.box s.cs] ++ e) ∧ Holds st [(1, .lst .ro 1 (L.map rowU)), (2, .int .i64 off), (3, .int .i64 metal), (4, .bool w), (5, .box 0 0), (12, .int .i64 c1), (13, .int .i64 (nv c2)), (14, .int .i64 i)]) (fun kk st hI => ?_) s.tools.length _ ?_
    · obtain ⟨i, c1, c2, hki, htk, ⟨e, hst⟩, hs⟩ := hI
      generalize hY : [SB.box s.cs] ++ e = Y at hst
      have hY0 : Y[0]? = some (.box s.cs) := by rw [← hY]; rfl
      have htb := take_b (T := s.tools) (w := w) (off := off) (metal := metal) b1 i
      rw [htk] at htb
      have hc2 : 0 ≤ c2 ∧ c2 ≤ 31 := ⟨htb.1, htb.2.1⟩
      refine k_gen _ _ hs hst fun fr => ?_
      refine k_seq ?_
      refine k_seq (k_region ?_)
      refine o_move rfl ?_
      refine o_faddr rfl rfl fld27_0 ?_
      refine o_load1 rfl rfl hY0 sh22 rfl ?_
      refine o_len rfl ty22 rfl (List.length_map _) ?_
      refine o_lss rfl rfl rfl ?_
      refine o_nil ?_
      refine k_cond rfl (fun h25 => ?_) (fun h25 => ?_)
      · refine k_skip ?_
        refine k_seq ?_
        refine k_block ?_
        refine k_seq (k_region ?_)
        refine o_faddr rfl rfl fld27_0 ?_
        refine o_load1 rfl rfl hY0 sh22 rfl ?_
        refine o_move rfl ?_
        have hil : i < s.tools.length := by have := of_decide_eq_true h25; omega
        obtain ⟨t, hq⟩ : ∃ t, s.tools[i]? = some t := ⟨s.tools[i], List.getElem?_eq_getElem hil⟩
        have htm := List.mem_of_getElem? hq
        have hb := hk.tools t htm
        have hsucc : takeT s.tools (recC s w) w off metal (i + 1) = stepT (recC s w) w off metal (c1, c2) i t := by
          show (match s.tools[i]? with | some t => stepT (recC s w) w off metal (takeT s.tools (recC s w) w off metal i) i t | none => takeT s.tools (recC s w) w off metal i) = _
          rw [hq, htk]
        have hstep := step_ref (w := w) (off := off) (tk := (c1, c2)) (i := i) (t := t) b1 (fun h o => cho_few hk w (by omega)) hm.2 hb.2.2.2.1 hc2.2
        rw [hstep] at hsucc
        refine o_idx (u := (t).u) rfl ty22 rfl rfl (Int.natCast_nonneg _) (by simp [hq]) cl52 ?_
        refine o_loadRN rfl rfl sh52 rfl ?_
        refine o_alloc rfl ze52 ?_
        refine o_storeN rfl (at_new _ _) sh52 rfl rfl rfl rfl rfl ?_
        refine o_nil ?_
        refine k_gen [(1, U.lst Kd.ro 1 (List.map rowU L)), (2, .int .i64 off), (3, .int .i64 metal), (4, U.bool w), (5, U.box 0 0), (12, .int .i64 c1), (13, .int .i64 (nv c2)), (14, .int .i64 ↑i), (15, U.box (List.length Y) 0)] (Y ++ [SB.box [.int .i64 (Tri.a t), .int .i64 (Tri.b t), .int .i64 (Tri.c t)]]) (.cons rfl (.cons rfl (.cons rfl (.cons rfl (.cons rfl (.cons rfl (.cons rfl (.cons rfl (.cons rfl (.nil rfl)))))))))) (set_end _ _ _) fun fr => ?_
        refine k_seq ?_
        refine k_seq (k_region ?_)
        refine o_faddr rfl rfl fld52_1 ?_
        refine o_load1 rfl rfl (at_new _ _) sh3 rfl ?_
        refine o_move rfl ?_
        refine o_gtr rfl rfl rfl ?_
        refine o_nil ?_
        refine k_cond rfl (fun h36 => ?_) (fun h36 => ?_)
        · refine k_exit ?_
          refine k_region ?_
          refine o_move rfl ?_
          refine o_add rfl rfl rfl (by unfold I64; omega) ?_
          refine o_assign rfl ?_
          refine o_nil ?_
          have hd := of_decide_eq_true h36
          rw [if_pos hd] at hsucc
          exact ⟨kk - 1, by omega, i + 1, c1, c2, by omega, hsucc, grow hY, .cons rfl (.cons rfl (.cons rfl (.cons rfl (.cons rfl (.cons rfl (.cons rfl (.cons rfl (.nil rfl))))))))⟩
        · refine k_skip ?_
          refine k_seq ?_
          refine k_draw [.plain, .plain, .plain, .read true, .plain, .plain, .read true, .read true, .plain, .plain, .plain, .plain] (by kernel_rfl) (by kernel_rfl) (by kernel_rfl) ?_
          refine d_plain (o_move rfl (o_nil rfl)) ?_
          refine d_plain (o_move rfl (o_nil rfl)) ?_
          refine d_plain (o_faddr rfl rfl fld52_1 (o_nil rfl)) ?_
          refine d_load rfl (o_load1 rfl rfl (at_new _ _) sh3 rfl (o_nil rfl)) ?_
          refine d_plain (o_sub rfl rfl rfl (by unfold I64; omega) (o_nil rfl)) ?_
          have hd := of_decide_eq_false h36
          rw [if_neg hd] at hsucc
          have hLk : L[(metal - t.c).toNat]? = some (rowL s w (metal - t.c)) := by
            have := hL (metal - t.c).toNat (by omega)
            rwa [show (((metal - t.c).toNat : Nat) : Int) = metal - t.c by omega] at this
          refine d_plain (o_idx (u := rowU (rowL s w (metal - t.c))) rfl ty84 rfl rfl (by omega) (by rw [List.getElem?_map, hLk]; rfl) cl89 (o_nil rfl)) ?_
          have hcb := cnt_b (w := w) (hit_bd b1 off metal t (widM t))
          have hnb := nv_b hcb
          refine d_load rfl (o_loadRN rfl rfl sh89 rfl (o_nil rfl)) ?_
          refine d_load rfl (o_loadN rfl rfl (at_new _ _) sh52 rfl (o_nil rfl)) ?_
          refine d_plain (o_move rfl (o_nil rfl)) ?_
          refine d_plain (o_move rfl (o_nil rfl)) ?_
          refine d_plain (o_call rfl (ret69 hi hk htm (by omega) ho) (.lrefl _) (o_nil rfl)) ?_
          refine d_plain (o_assign rfl (o_nil rfl)) ?_
          refine d_nil ?_
          refine k_seq (k_region ?_)
          refine o_move rfl ?_
          refine o_lss rfl rfl rfl ?_
          refine o_move rfl ?_
          refine o_guardX rfl rfl rfl rfl (fun h50 => ?_) (fun h50 => ?_)
          · refine o_move rfl ?_
            refine o_gD rfl rfl rfl rfl (by assumption) ?_
            refine o_add rfl rfl rfl (by unfold I64; omega) ?_
            refine o_gD rfl rfl rfl rfl (by assumption) ?_
            refine o_move rfl ?_
            refine o_gD rfl rfl rfl rfl (by assumption) ?_
            refine o_lss rfl rfl rfl ?_
            refine o_pickT rfl rfl (by assumption) ?_
            refine o_nil ?_
            refine k_gen [(1, U.lst Kd.ro 1 (List.map rowU L)), (2, .int .i64 off), (3, .int .i64 metal), (4, U.bool w), (5, U.box 0 0), (12, .int .i64 c1), (13, .int .i64 (nv c2)), (14, .int .i64 ↑i), (16, .int .i64 (nv (cntL w (hitL (recC s w) off metal t (widM t))))), (51, .int .i64 (nv (cntL w (hitL (recC s w) off metal t (widM t))))), (52, .int .i64 (nv (cntL w (hitL (recC s w) off metal t (widM t))) + (1 : Int))), (53, .int .i64 (nv c2)), (54, U.bool (Decidable.decide (nv (cntL w (hitL (recC s w) off metal t (widM t))) + (1 : Int) < nv c2))), (55, U.bool (Decidable.decide (nv (cntL w (hitL (recC s w) off metal t (widM t))) + (1 : Int) < nv c2)))] (Y ++ [SB.box [.int .i64 (Tri.a t), .int .i64 (Tri.b t), .int .i64 (Tri.c t)]]) (.cons rfl (.cons rfl (.cons rfl (.cons rfl (.cons rfl (.cons rfl (.cons rfl (.cons rfl (.cons rfl (.cons rfl (.cons rfl (.cons rfl (.cons rfl (.cons rfl (.nil rfl))))))))))))))) rfl fun fr => ?_
            refine k_cond rfl (fun h55 => ?_) (fun h55 => ?_)
            · refine k_region ?_
              refine o_move rfl ?_
              refine o_move rfl ?_
              refine o_add rfl rfl rfl (by unfold I64; omega) ?_
              refine o_assign rfl ?_
              refine o_assign rfl ?_
              refine o_nil ?_
              refine k_region ?_
              refine o_move rfl ?_
              refine o_add rfl rfl rfl (by unfold I64; omega) ?_
              refine o_assign rfl ?_
              refine o_nil ?_
              have a1 := of_decide_eq_true h50
              have a2 := of_decide_eq_true h55
              rw [if_pos ⟨a1, a2⟩] at hsucc
              have e1 : nv (cntL w (hitL (recC s w) off metal t (widM t))) = cntL w (hitL (recC s w) off metal t (widM t)) := by unfold nv at a1 ⊢; split <;> simp_all
              have hfew := cnt_few (w := w) (off := off) b1 (fun o => cho_few hk w (by omega)) hm.2 hb.2.2.2.1
              have e2 : nv (cntL w (hitL (recC s w) off metal t (widM t)) + 1) = cntL w (hitL (recC s w) off metal t (widM t)) + 1 := by
                rw [e1] at a2
                unfold nv at a2 ⊢
                rw [if_neg]
                omega
              refine ⟨kk - 1, by omega, i + 1, _, _, by omega, hsucc, grow hY, .cons rfl (.cons rfl (.cons rfl (.cons rfl (.cons rfl (.cons rfl (.cons (congrArg (U.int .i64) ?_) (.cons rfl (.nil rfl))))))))⟩
              rw [e2, e1]
            · refine k_skip ?_
              refine k_region ?_
              refine o_move rfl ?_
              refine o_add rfl rfl rfl (by unfold I64; omega) ?_
              refine o_assign rfl ?_
              refine o_nil ?_
              have a1 := of_decide_eq_true h50
              have a2 := of_decide_eq_false h55
              rw [if_neg (fun e => a2 e.2)] at hsucc
              exact ⟨kk - 1, by omega, i + 1, c1, c2, by omega, hsucc, grow hY, .cons rfl (.cons rfl (.cons rfl (.cons rfl (.cons rfl (.cons rfl (.cons rfl (.cons rfl (.nil rfl))))))))⟩
          · refine o_gS rfl rfl rfl rfl (by assumption) ?_
            refine o_gS rfl rfl rfl rfl (by assumption) ?_
            refine o_gS rfl rfl rfl rfl (by assumption) ?_
            refine o_pickF rfl rfl (by assumption) ?_
            refine o_nil ?_
            refine k_gen [(1, U.lst Kd.ro 1 (List.map rowU L)), (2, .int .i64 off), (3, .int .i64 metal), (4, U.bool w), (5, U.box 0 0), (12, .int .i64 c1), (13, .int .i64 (nv c2)), (14, .int .i64 ↑i), (16, .int .i64 (nv (cntL w (hitL (recC s w) off metal t (widM t))))), (51, U.tup []), (52, U.tup []), (53, U.tup []), (54, U.tup []), (55, U.bool Bool.false)] (Y ++ [SB.box [.int .i64 (Tri.a t), .int .i64 (Tri.b t), .int .i64 (Tri.c t)]]) (.cons rfl (.cons rfl (.cons rfl (.cons rfl (.cons rfl (.cons rfl (.cons rfl (.cons rfl (.cons rfl (.cons rfl (.cons rfl (.cons rfl (.cons rfl (.cons rfl (.nil rfl))))))))))))))) rfl fun fr => ?_
            refine k_cF rfl rfl ?_
            refine k_skip ?_
            refine k_region ?_
            refine o_move rfl ?_
            refine o_add rfl rfl rfl (by unfold I64; omega) ?_
            refine o_assign rfl ?_
            refine o_nil ?_
            have a1 := of_decide_eq_false h50
            rw [if_neg (fun e => a1 e.1)] at hsucc
            exact ⟨kk - 1, by omega, i + 1, c1, c2, by omega, hsucc, grow hY, .cons rfl (.cons rfl (.cons rfl (.cons rfl (.cons rfl (.cons rfl (.cons rfl (.cons rfl (.nil rfl))))))))⟩
      · refine k_exit ?_
        refine k_seq (k_region ?_)
        refine o_move rfl ?_
        refine o_move rfl ?_
        refine o_assign rfl ?_
        refine o_assign rfl ?_
        refine o_nil ?_
        refine k_ret ?_
        refine ⟨.inr rfl, _, .cons _ _ _ _ (.tmp 10) (.cons _ _ _ _ (.tmp 11) .nil), ?_⟩
        have hil : i = s.tools.length := by have := of_decide_eq_false h25; omega
        subst hil
        rw [if_neg hf, htk]; exact .refl _
    · exact ⟨0, -1, 31, by omega, rfl, ⟨[], rfl⟩, .cons rfl (.cons rfl (.cons rfl (.cons rfl (.cons rfl (.cons rfl (.cons rfl (.cons rfl (.nil rfl))))))))⟩
theorem by89 : Program.bytesOf Try.prog 89 = 24 := by kernel_rfl
theorem ze89 : zeroL Try.prog 89 = some ((.cons .nils .nil) : V) := by kernel_rfl
theorem ap84_84 : AppT Try.prog 84 84 89 1 24 ((.cons .nils .nil) : V) := ⟨ty84, ⟨_, ty84⟩, cl89, by decide, by89, ze89, rfl⟩
noncomputable def b52 : Code := (Try.f52.body).getD .skip
theorem body52 : bodyOf Try.prog 52 = some (39, b52, [.tmp 4]) := by kernel_rfl
theorem pure52 : pureFn Try.prog 52 = true := by kernel_rfl
theorem set_end2 (l : List SB) (x y z : SB) : ((l ++ [x]).set l.length y).set l.length z = l ++ [z] := by rw [List.set_set, set_end]
def rowsL (s : Shop) (w : Bool) (n : Nat) : List (List Int) := (List.range n).map fun m : Nat => rowL s w m
theorem rows_succ (s : Shop) (w : Bool) (n : Nat) : rowsL s w (n + 1) = rowsL s w n ++ [rowL s w n] := by
  unfold rowsL; rw [List.range_succ, List.map_append]; rfl
theorem rows_get (s : Shop) (w : Bool) {n k : Nat} (h : k < n) : (rowsL s w n)[k]? = some (rowL s w k) := by
  unfold rowsL; rw [List.getElem?_map, List.getElem?_range h]; rfl
theorem rows_len (s : Shop) (w : Bool) (n : Nat) : (rowsL s w n).length = n := by unfold rowsL; simp
def rowP (s : Shop) (w : Bool) (m : Int) (n : Nat) : List Int := (List.range n).map fun j : Nat => nv (cho s w ((j : Int) - 60) m).2
theorem rowP_succ (s : Shop) (w : Bool) (m : Int) (n : Nat) : rowP s w m (n + 1) = rowP s w m n ++ [nv (cho s w ((n : Int) - 60) m).2] := by
  unfold rowP; rw [List.range_succ, List.map_append]; rfl
theorem rowP_len (s : Shop) (w : Bool) (m : Int) (n : Nat) : (rowP s w m n).length = n := by unfold rowP; simp
abbrev rowO (l : List Int) : U := .agg [.lst .own 1 (intsU l)]
def accR (l : List (List Int)) : U := match l with
  | [] => .lst .full 0 []
  | l => .lst .own 1 (l.map rowO)
theorem accR_snoc (x : List Int) (l : List (List Int)) : accR (l ++ [x]) = .lst .own 1 (l.map rowO ++ [rowO x]) := by
  cases l with
  | nil => rfl
  | cons y l => show U.lst .own 1 _ = _; rw [List.map_append]; rfl
theorem uw_rows (k : Kd) (l : List (List Int)) : UW (.u (.lst k 1 (l.map rowO))) (.u (.lst .ro 1 (l.map rowU))) := by
  refine .lst _ _ _ _ ?_ ?_
  · induction l with
    | nil => exact .lrefl _
    | cons x l ih => exact .lcons _ _ _ _ (.ro _ _ _) ih
  · rw [List.map_map, List.map_map]; rfl
theorem uw_accR (l : List (List Int)) : UW (.u (dg (accR l))) (.u (.lst .ro 1 (l.map rowU))) := by
  cases l with
  | nil => exact .nil .full .ro 1
  | cons x l => exact uw_rows .ro (x :: l)
set_option maxHeartbeats 4000000 in
theorem ret52 (hi : Off is) {s : Shop} (hk : SOk s) (w : Bool) : RetP Try.prog is orc 52 [s.u, .bool w] (.lst .ro 1 ((rowsL s w 31).map rowU)) := by
  refine ret_of body52 pure52 (hi 52 (by decide)) rfl rfl (dat_l2 (dat_shop s 5) (.bool _ _)) (.inl (.lst _ _ _ _ (fun h => by cases h) fun c hc => by
      obtain ⟨u, hu, hc⟩ := List.mem_flatMap.1 hc
      obtain ⟨l, _, rfl⟩ := List.mem_map.1 hu
      simp only [cellsU, List.mem_cons, List.not_mem_nil, or_false] at hc
      subst hc
      exact dat_ints 5 .ro (fun h => by cases h) 1 _)) ?_
  refine k_seq (k_region ?_)
  refine o_box rfl rfl ?_
  refine o_assign rfl ?_
  refine o_nil ?_
  refine k_gen [(1, U.bool w), (2, U.box 0 0)] ([SB.box [U.lst Kd.ro 3 (trisU (Shop.tools s)), .int .i64 (Shop.flo s), .int .i64 (Shop.fhi s), U.lst Kd.ro 3 (trisU (Shop.keys s))]]) (.cons rfl (.cons rfl (.nil rfl))) rfl fun fr => ?_
  refine k_seq (k_region ?_)
  refine o_assign rfl ?_
  refine o_nil ?_
  refine k_seq ?_
  refine k_seq (k_region ?_)
  refine o_assign rfl ?_
  refine o_nil ?_
  refine k_block ?_
  refine k_loop (fun k0 st => ∃ (m : Nat), k0 + m = 31 ∧ (∃ e, st.st = [.box s.cs] ++ e) ∧ Holds st [(1, .bool w), (2, .box 0 0), (5, accR (rowsL s w m)), (6, .int .i64 m)]) (fun k0 st hI => ?_) 31 _ ?_
  · obtain ⟨m, hkm, ⟨e, hst⟩, hs⟩ := hI
    generalize hY : [SB.box s.cs] ++ e = Y at hst
    have hY0 : Y[0]? = some (.box s.cs) := by rw [← hY]; rfl
    obtain ⟨A, hA⟩ : ∃ A, A = accR (rowsL s w m) := ⟨_, rfl⟩
    have hAu := uw_accR (rowsL s w m)
    rw [← hA] at hs hAu
    refine k_gen _ _ hs hst fun fr => ?_
    refine k_seq ?_
    refine k_seq (k_region ?_)
    refine o_move rfl ?_
    refine o_leq rfl rfl rfl ?_
    refine o_nil ?_
    refine k_cond rfl (fun h12 => ?_) (fun h12 => ?_)
    · refine k_skip ?_
      refine k_seq ?_
      refine k_block ?_
      refine k_seq (k_region ?_)
      refine o_alloc rfl ze89 ?_
      refine o_nil ?_
      refine k_gen [(1, U.bool w), (2, U.box 0 0), (5, A), (6, .int .i64 ↑m), (7, U.box (List.length Y) 0)] (Y ++ [SB.box [U.lst Kd.full 0 []]]) (.cons rfl (.cons rfl (.cons rfl (.cons rfl (.cons rfl (.nil rfl)))))) rfl fun fr => ?_
      refine k_seq ?_
      refine k_seq (k_region ?_)
      refine o_assign rfl ?_
      refine o_nil ?_
      refine k_block ?_
      have hd := of_decide_eq_true h12
      refine k_loop (fun kk st => ∃ (j : Nat), kk + j = 121 ∧ st.st = Y ++ [.box [accI (rowP s w m j)]] ∧ Holds st [(1, .bool w), (2, .box 0 0), (5, A), (6, .int .i64 m), (7, .box Y.length 0), (8, .int .i64 (j - 60))]) (fun kk st hI => ?_) 121 _ ?_
      · obtain ⟨j, hkj, hst, hs⟩ := hI
        refine k_gen _ _ hs hst fun fr => ?_
        have q51 := fun (o : Int) (ho : -60 ≤ o ∧ o ≤ 60) => ret51 (orc := orc) hi hk (w := w) (off := o) (metal := (m : Int)) ho (by omega) (rowsL s w m) (fun k h => rows_get s w (by omega))
        have hlen := rowP_len s w m j
        have hsucc := rowP_succ s w m j
        generalize hR : rowP s w m j = R at hlen hsucc
        cases R with
        | nil =>
          have hj0 : j = 0 := hlen.symm
          refine k_seq ?_
          refine k_seq (k_region ?_)
          refine o_move rfl ?_
          refine o_leq rfl rfl rfl ?_
          refine o_nil ?_
          refine k_cT rfl (decide_eq_true (by omega)) ?_
          refine k_skip ?_
          refine k_seq ?_
          refine k_block ?_
          refine k_seq (k_region ?_)
          refine o_loadN rfl rfl (at_pre hY0) sh27 rfl ?_
          refine o_move rfl ?_
          refine o_move rfl ?_
          refine o_move rfl ?_
          refine o_move rfl ?_
          refine o_call rfl (q51 _ (by omega)) (.lcons _ _ _ _ (.refl _) (.lcons _ _ _ _ hAu (.lrefl _))) ?_
          refine o_move rfl ?_
          refine o_extract rfl rfl rfl ?_
          refine o_extract rfl rfl rfl ?_
          refine o_assign rfl ?_
          refine o_assign rfl ?_
          refine o_nil ?_
          refine k_gen [(1, U.bool w), (2, U.box 0 0), (5, A), (6, .int .i64 ↑m), (7, U.box (List.length Y) 0), (8, .int .i64 (↑j - (60 : Int))), (10, .int .i64 (nv (Prod.snd (cho s w (↑j - (60 : Int)) ↑m))))] (Y ++ [SB.box [accI []]]) (.cons rfl (.cons rfl (.cons rfl (.cons rfl (.cons rfl (.cons rfl (.cons rfl (.nil rfl)))))))) rfl fun fr => ?_
          refine k_region ?_
          refine o_faddr rfl rfl fld89_0 ?_
          refine o_load1 rfl rfl (at_new _ _) sh38 rfl ?_
          refine o_move rfl ?_
          refine o_lit (es := [.int .i64 (nv (Prod.snd (cho s w (↑j - (60 : Int)) ↑m)))]) rfl ty38 ze3 cl3 rfl rfl rfl rfl rfl rfl rfl rfl ?_
          refine o_appendF rfl ap38_38 rfl rfl (by simp) (by simp) (by simp [flatU, cellsU, oneU]) (by simp) ?_
          refine o_faddr rfl rfl fld89_0 ?_
          refine o_store1 rfl (at_new _ _) sh38 rfl rfl ?_
          refine o_nil ?_
          refine k_gen [(1, U.bool w), (2, U.box 0 0), (5, A), (6, .int .i64 ↑m), (7, U.box (List.length Y) 0), (8, .int .i64 (↑j - (60 : Int)))] (Y ++ [SB.box [U.lst Kd.own 1 [.int .i64 (nv (Prod.snd (cho s w (↑j - (60 : Int)) ↑m)))]]]) (.cons rfl (.cons rfl (.cons rfl (.cons rfl (.cons rfl (.cons rfl (.nil rfl))))))) (set_end _ _ _) fun fr => ?_
          refine k_region ?_
          refine o_move rfl ?_
          refine o_add rfl rfl rfl (by unfold I64; omega) ?_
          refine o_assign rfl ?_
          refine o_nil ?_
          refine ⟨kk - 1, by omega, j + 1, by omega, ?_, .cons rfl (.cons rfl (.cons rfl (.cons rfl (.cons rfl (.cons (congrArg (U.int .i64) (by omega)) (.nil rfl))))))⟩
          rw [hsucc]; rfl
        | cons y R =>
          refine k_seq ?_
          refine k_seq (k_region ?_)
          refine o_move rfl ?_
          refine o_leq rfl rfl rfl ?_
          refine o_nil ?_
          refine k_cond rfl (fun h16 => ?_) (fun h16 => ?_)
          · refine k_skip ?_
            refine k_seq ?_
            refine k_block ?_
            refine k_seq (k_region ?_)
            refine o_loadN rfl rfl (at_pre hY0) sh27 rfl ?_
            refine o_move rfl ?_
            refine o_move rfl ?_
            refine o_move rfl ?_
            refine o_move rfl ?_
            have hd2 := of_decide_eq_true h16
            refine o_call rfl (q51 _ (by omega)) (.lcons _ _ _ _ (.refl _) (.lcons _ _ _ _ hAu (.lrefl _))) ?_
            refine o_move rfl ?_
            refine o_extract rfl rfl rfl ?_
            refine o_extract rfl rfl rfl ?_
            refine o_assign rfl ?_
            refine o_assign rfl ?_
            refine o_nil ?_
            refine k_region ?_
            refine o_faddr rfl rfl fld89_0 ?_
            refine o_load1 rfl rfl (at_new _ _) sh38 rfl ?_
            refine o_move rfl ?_
            refine o_lit (es := [.int .i64 (nv (Prod.snd (cho s w (↑j - (60 : Int)) ↑m)))]) rfl ty38 ze3 cl3 rfl rfl rfl rfl rfl rfl rfl rfl ?_
            refine o_appendC (List.length Y) 0 rfl ap38_38 (isCp_head rfl) (at_new _ _) rfl rfl (by simp) (by simp) (by simp [flatU, cellsU, oneU]) (by simp at hlen ⊢; omega) ?_
            refine o_faddr rfl rfl fld89_0 ?_
            refine o_store1 rfl (at_set _ _ _) sh38 rfl rfl ?_
            refine o_nil ?_
            refine k_gen [(1, U.bool w), (2, U.box 0 0), (5, A), (6, .int .i64 ↑m), (7, U.box (List.length Y) 0), (8, .int .i64 (↑j - (60 : Int)))] (Y ++ [SB.box [U.lst Kd.own 1 (.int .i64 y :: List.append (List.map (fun n ↦ .int .i64 n) R) [.int .i64 (nv (Prod.snd (cho s w (↑j - (60 : Int)) ↑m)))])]]) (.cons rfl (.cons rfl (.cons rfl (.cons rfl (.cons rfl (.cons rfl (.nil rfl))))))) (set_end2 _ _ _ _) fun fr => ?_
            refine k_region ?_
            refine o_move rfl ?_
            refine o_add rfl rfl rfl (by unfold I64; omega) ?_
            refine o_assign rfl ?_
            refine o_nil ?_
            refine ⟨kk - 1, by omega, j + 1, by omega, ?_, .cons rfl (.cons rfl (.cons rfl (.cons rfl (.cons rfl (.cons (congrArg (U.int .i64) (by omega)) (.nil rfl))))))⟩
            rw [hsucc, accI_snoc]; rfl
          · refine k_exit ?_
            refine k_region ?_
            refine o_move rfl ?_
            refine o_loadN rfl rfl (at_new _ _) sh89 rfl ?_
            refine o_lit (es := [U.agg [accI (y :: R)]]) rfl ty84 ze89 cl89 rfl rfl rfl rfl rfl rfl rfl rfl ?_
            have hd2 := of_decide_eq_false h16
            have hj : j = 121 := by omega
            subst hj
            have hR : rowL s w m = y :: R := hR
            have hrs := rows_succ s w m
            have hrl := rows_len s w m
            rw [hR] at hrs
            subst hA
            generalize rowsL s w m = L at hrs hrl
            cases L with
            | nil =>
              refine o_appendF rfl ap84_84 rfl rfl (by simp) (by simp) rfl (by simp) ?_
              refine o_assign rfl ?_
              refine o_nil ?_
              refine k_region ?_
              refine o_move rfl ?_
              refine o_add rfl rfl rfl (by unfold I64; omega) ?_
              refine o_assign rfl ?_
              refine o_nil ?_
              exact ⟨k0 - 1, by omega, m + 1, by omega, grow hY, .cons rfl (.cons rfl (.cons (by rw [hrs]; rfl) (.cons rfl (.nil rfl))))⟩
            | cons x L =>
              refine o_appendS 5 rfl ap84_84 rfl rfl rfl (by simp) (by simp) rfl (by simp at hrl ⊢; omega) ?_
              refine o_assign rfl ?_
              refine o_nil ?_
              refine k_region ?_
              refine o_move rfl ?_
              refine o_add rfl rfl rfl (by unfold I64; omega) ?_
              refine o_assign rfl ?_
              refine o_nil ?_
              exact ⟨k0 - 1, by omega, m + 1, by omega, grow hY, .cons rfl (.cons rfl (.cons (by rw [hrs, accR_snoc]; rfl) (.cons rfl (.nil rfl))))⟩
      · exact ⟨0, by omega, rfl, .cons rfl (.cons rfl (.cons rfl (.cons rfl (.cons rfl (.cons rfl (.nil rfl))))))⟩
    · refine k_exit ?_
      refine k_seq (k_region ?_)
      refine o_move rfl ?_
      refine o_assign rfl ?_
      refine o_nil ?_
      refine k_ret ?_
      refine ⟨.inr rfl, _, .cons _ _ _ _ (.tmp 4) .nil, ?_⟩
      have hd := of_decide_eq_false h12
      have hm : m = 31 := by omega
      subst hm
      subst hA
      have hrl := rows_len s w 31
      generalize rowsL s w 31 = L at hrl
      cases L with
      | nil => cases hrl
      | cons x L => exact uw_rows _ (x :: L)
  · exact ⟨0, by omega, ⟨[], rfl⟩, .cons rfl (.cons rfl (.cons rfl (.cons rfl (.nil rfl))))⟩
end Go.Proofs.Ytdahbimllmapkaa.raspPlays
