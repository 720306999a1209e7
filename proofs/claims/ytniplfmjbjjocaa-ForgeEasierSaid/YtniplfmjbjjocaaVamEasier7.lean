/- forge's functions, the specification's and the law's, by the logic of trees: what each gives back for all that it may be given. -/
import Derived.Test.YtniplfmjbjjocaaVamEasier6
namespace Go.Proofs.Ytniplfmjbjjocaa.forgeEasier
open Vam
set_option linter.unusedVariables false
set_option linter.unusedSimpArgs false
set_option linter.constructorNameAsVariable false
variable {is : FuncId → Bool} {orc : Known}
theorem by39 : Program.bytesOf Try.prog 39 = 24 := by kernel_rfl
theorem pl39 : plcOf Try.prog 39 = some [(0, 1), (1, 2)] := by kernel_rfl
theorem ze28 : zeroL Try.prog 28 = some ((.cons .nils (.cons (.int .i64 0) (.cons (.int .i64 0) (.cons (.int .i64 0) (.cons (.int .i64 0) (.cons (.int .i64 0) (.cons (.int .i64 0) (.cons .nils (.cons (.int .i64 0) (.cons (.int .i64 0) (.cons (.int .i64 0) (.cons (.int .i64 0) (.cons (.int .i64 0) (.cons .nils .nil)))))))))))))) : V) := by kernel_rfl
theorem ap22_22 : AppT Try.prog 22 22 39 3 24 ((.cons (.int .i64 0) (.cons (.int .i64 0) (.cons (.int .i64 0) .nil))) : V) := ⟨ty22, ⟨_, ty22⟩, cl39, by decide, by39, ze39, rfl⟩
noncomputable def b3 : Code := (Try.f3.body).getD .skip
theorem body3 : bodyOf Try.prog 3 = some (129, b3, [.tmp 6]) := by kernel_rfl
theorem pure3 : pureFn Try.prog 3 = false := by kernel_rfl
theorem lvM_mono {L L' : Qd} (h : ∀ k, L.at k ≤ L'.at k) : ∀ (r k : Nat) (m : Qd) (more : Int) (x : Qd), x ∈ lvM L r k m more → x ∈ lvM L' r k m more := by
  intro r
  induction r with
  | zero => intro k m more x hx; exact hx
  | succ r ih =>
    intro k m more x hx
    obtain ⟨j, hj, hx⟩ := List.mem_flatMap.1 hx
    have hj := List.mem_range.1 hj
    refine List.mem_flatMap.2 ⟨j, List.mem_range.2 ?_, ih _ _ _ _ hx⟩
    have := h k
    unfold widM at hj ⊢; omega
theorem isM_iff {b : Bk} {l : List Int} : isM b l = true ↔ askQ l ∈ melts (stoQ b) (sumI l) ∧ rightI b (sumI l) (askQ l) = true := by
  unfold isM rights
  rw [List.any_eq_true]
  constructor
  · rintro ⟨q, hq, he⟩
    rw [eqQ_iff] at he; subst he
    exact List.mem_filter.1 hq
  · intro h
    exact ⟨askQ l, List.mem_filter.2 h, eqQ_iff.2 rfl⟩
structure EasyF (b x : Bk) : Prop where
  sto : ∀ k, (stoQ b).at k ≤ (stoQ x).at k
  lo : ∀ i, ltI b false i ≤ ltI x false i
  hi : ∀ i, ltI x true i ≤ ltI b true i
  tl : x.tlo ≤ b.tlo
  th : b.thi ≤ x.thi
theorem tin_le {m : Qd} (hm : QOk m) {a a' b b' c c' d d' : Int} (h1 : a ≤ a') (h2 : b ≤ b') (h3 : c ≤ c') (h4 : d ≤ d') : m.a * a + m.b * b + m.c * c + m.d * d ≤ m.a * a' + m.b * b' + m.c * c' + m.d * d' :=
  Int.add_le_add (Int.add_le_add (Int.add_le_add (Int.mul_le_mul_of_nonneg_left h1 hm.a.1) (Int.mul_le_mul_of_nonneg_left h2 hm.b.1)) (Int.mul_le_mul_of_nonneg_left h3 hm.c.1)) (Int.mul_le_mul_of_nonneg_left h4 hm.d.1)
theorem isM_mono {b x : Bk} (h : EasyF b x) {l : List Int} (hm : QOk (askQ l)) (hs : 0 ≤ sumI l) (hb : isM b l = true) : isM x l = true := by
  rw [isM_iff] at hb ⊢
  refine ⟨lvM_mono h.sto _ _ _ _ _ hb.1, ?_⟩
  have h2 := hb.2
  unfold rightI at h2 ⊢
  rw [Bool.and_eq_true] at h2 ⊢
  have k1 : tinI b false (askQ l) ≥ sumI l * b.tlo := of_decide_eq_true h2.1
  have k2 : tinI b true (askQ l) ≤ sumI l * b.thi := of_decide_eq_true h2.2
  have t1 : tinI b false (askQ l) ≤ tinI x false (askQ l) := tin_le hm (h.lo 0) (h.lo 1) (h.lo 2) (h.lo 3)
  have t2 : tinI x true (askQ l) ≤ tinI b true (askQ l) := tin_le hm (h.hi 0) (h.hi 1) (h.hi 2) (h.hi 3)
  have s1 : sumI l * x.tlo ≤ sumI l * b.tlo := Int.mul_le_mul_of_nonneg_left h.tl hs
  have s2 : sumI l * b.thi ≤ sumI l * x.thi := Int.mul_le_mul_of_nonneg_left h.th hs
  exact ⟨decide_eq_true (show tinI x false (askQ l) ≥ sumI l * x.tlo by omega), decide_eq_true (show tinI x true (askQ l) ≤ sumI l * x.thi by omega)⟩
abbrev Bk.tin (b : Bk) (lo hi : Int) : Bk := { b with tlo := lo, thi := hi }
abbrev Bk.lot (b : Bk) (j : Nat) (q : Tri) : Bk := { b with lots := b.lots.set j q }
theorem tin_easy (b : Bk) {lo hi : Int} (h1 : lo ≤ b.tlo) (h2 : b.thi ≤ hi) : EasyF b (b.tin lo hi) :=
  ⟨fun _ => Int.le_refl _, fun _ => Int.le_refl _, fun _ => Int.le_refl _, h1, h2⟩
theorem tin_ok {b : Bk} (hb : Ok b) {lo hi : Int} (h : 0 ≤ lo ∧ lo ≤ hi ∧ hi ≤ 1000) : Ok (b.tin lo hi) :=
  ⟨⟨hb.nl, hb.nt, hb.nk, h, hb.thick, hb.crack, hb.goal, hb.hot, hb.least, hb.cool, hb.coal⟩, hb.lots, hb.thins, hb.looks⟩
theorem lot_ok {b : Bk} (hb : Ok b) {j : Nat} {q : Tri} (hq : 0 ≤ q.a ∧ q.a ≤ 6 ∧ 0 ≤ q.b ∧ q.b ≤ q.c ∧ q.c ≤ 1000) : Ok (b.lot j q) := by
  refine ⟨⟨by show 1 ≤ (b.lots.set j q).length ∧ (b.lots.set j q).length ≤ 4; rw [List.length_set]; exact hb.nl, hb.nt, hb.nk, hb.tin, hb.thick, hb.crack, hb.goal, hb.hot, hb.least, hb.cool, hb.coal⟩, fun t ht => ?_, hb.thins, hb.looks⟩
  rcases mem_set ht with h | rfl
  · exact hb.lots t h
  · exact hq
theorem lot_at {b : Bk} {j : Nat} {t q : Tri} (ht : b.lots[j]? = some t) (i : Nat) : (∃ u, b.lots[i]? = some u ∧ (b.lot j q).lots[i]? = some u) ∨ (b.lots[i]? = some t ∧ (b.lot j q).lots[i]? = some q) ∨ (b.lots[i]? = none ∧ (b.lot j q).lots[i]? = none) := by
  by_cases e : j = i
  · subst e
    exact .inr (.inl ⟨ht, by show (b.lots.set j q)[j]? = _; rw [List.getElem?_set_self (List.getElem?_eq_some_iff.1 ht).1]⟩)
  · have hs : (b.lot j q).lots[i]? = b.lots[i]? := by show (b.lots.set j q)[i]? = _; rw [List.getElem?_set_ne e]
    cases h : b.lots[i]? with
    | none => exact .inr (.inr ⟨rfl, by rw [hs, h]⟩)
    | some u => exact .inl ⟨u, rfl, by rw [hs, h]⟩
theorem lot_easy {b : Bk} {j : Nat} {t q : Tri} (ht : b.lots[j]? = some t) (h : t.a ≤ q.a ∧ t.b ≤ q.b ∧ q.c ≤ t.c) : EasyF b (b.lot j q) := by
  have hst : ∀ i, stk b b.lots.length i ≤ stk (b.lot j q) (b.lot j q).lots.length i := fun i => by
    have hl : (b.lot j q).lots.length = b.lots.length := by show (b.lots.set j q).length = _; rw [List.length_set]
    rw [hl]
    unfold stk
    split
    · rcases lot_at (q := q) ht i with ⟨u, h1, h2⟩ | ⟨h1, h2⟩ | ⟨h1, h2⟩
      · rw [h1, h2]; exact Int.le_refl _
      · rw [h1, h2]; exact h.1
      · rw [h1, h2]; exact Int.le_refl _
    · exact Int.le_refl _
  refine ⟨fun k => ?_, fun i => ?_, fun i => ?_, Int.le_refl _, Int.le_refl _⟩
  · match k with
    | 0 => exact hst 0
    | 1 => exact hst 1
    | 2 => exact hst 2
    | _ + 3 => exact hst 3
  · unfold ltI
    rcases lot_at (q := q) ht i with ⟨u, h1, h2⟩ | ⟨h1, h2⟩ | ⟨h1, h2⟩
    · rw [h1, h2]; exact Int.le_refl _
    · rw [h1, h2]; exact h.2.1
    · rw [h1, h2]; exact Int.le_refl _
  · unfold ltI
    rcases lot_at (q := q) ht i with ⟨u, h1, h2⟩ | ⟨h1, h2⟩ | ⟨h1, h2⟩
    · rw [h1, h2]; exact Int.le_refl _
    · rw [h1, h2]; exact h.2.2
    · rw [h1, h2]; exact Int.le_refl _
theorem sum_bd {l : List Int} (hl : l.length ≤ 4) (hx : ∀ x ∈ l, 0 ≤ x ∧ x ≤ 6) : 0 ≤ sumI l ∧ sumI l ≤ 24 := by
  match l, hl with
  | [], _ => exact ⟨by decide, by decide⟩
  | [a], _ =>
    have := hx a (by simp)
    show 0 ≤ 0 + a ∧ 0 + a ≤ 24; omega
  | [a, b], _ =>
    have := hx a (by simp)
    have := hx b (by simp)
    show 0 ≤ 0 + a + b ∧ 0 + a + b ≤ 24; omega
  | [a, b, c], _ =>
    have := hx a (by simp)
    have := hx b (by simp)
    have := hx c (by simp)
    show 0 ≤ 0 + a + b + c ∧ 0 + a + b + c ≤ 24; omega
  | [a, b, c, d], _ =>
    have := hx a (by simp)
    have := hx b (by simp)
    have := hx c (by simp)
    have := hx d (by simp)
    show 0 ≤ 0 + a + b + c + d ∧ 0 + a + b + c + d ≤ 24; omega
  | _ :: _ :: _ :: _ :: _ :: _, h => simp at h
theorem ask_ok {l : List Int} (hx : ∀ x ∈ l, 0 ≤ x ∧ x ≤ 6) : QOk (askQ l) := by
  have key : ∀ i : Nat, 0 ≤ (l[i]?).getD 0 ∧ (l[i]?).getD 0 ≤ 24 := fun i => by
    cases h : l[i]? with
    | none => simp
    | some x => have := hx x (List.mem_of_getElem? h); show 0 ≤ x ∧ x ≤ 24; omega
  exact ⟨key 0, key 1, key 2, key 3⟩
set_option maxHeartbeats 8000000 in
theorem ret3 (hi : Off is) (b : Bk) (bits : List Int) (m0 m1 m2 : Int) (r8 : RetP Try.prog is orc 8 [] (.bool true)) : RetP Try.prog is orc 3 [b.u, .lst .ro 1 (intsU bits), .agg [.int .i64 m0, .int .i64 m1, .int .i64 m2]] (.bool true) := by
  have hd3 : ∀ u ∈ [b.u, .lst .ro 1 (intsU bits), .agg [.int .i64 m0, .int .i64 m1, .int .i64 m2]], Dat 8 u := dat_l3 (dat_bk b 5) (dat_ints 6 .ro (fun h => by cases h) 1 bits) (.agg _ _ (dat_l3 (.int _ _ _) (.int _ _ _) (.int _ _ _)))
  refine ret_of_shared body3 pure3 rfl rfl (fun u hu => ⟨(hd3 u hu).nb, (hd3 u hu).own⟩) (Dat.bool 8 true).nb ?_
  by_cases hv : checkR b ≠ 0
  · refine k_seq (k_region ?_)
    refine o_box rfl rfl ?_
    refine o_box rfl rfl ?_
    refine o_assign rfl ?_
    refine o_nil ?_
    refine k_gen [(1, U.lst Kd.ro 1 (intsU bits)), (3, U.box 0 0), (5, U.box 1 0)] ([SB.box [U.lst Kd.ro 3 (trisU (Bk.lots b)), .int .i64 (Bk.tlo b), .int .i64 (Bk.thi b), .int .i64 (Bk.thick b), .int .i64 (Bk.crack b), .int .i64 (Bk.glo b), .int .i64 (Bk.ghi b), U.lst Kd.ro 2 (twosU (Bk.thins b)), .int .i64 (Bk.hot b), .int .i64 (Bk.least b), .int .i64 (Bk.clo b), .int .i64 (Bk.chi b), .int .i64 (Bk.coal b), U.lst Kd.ro 3 (trisU (Bk.looks b))], SB.box [.int .i64 m0, .int .i64 m1, .int .i64 m2]]) (.cons rfl (.cons rfl (.cons rfl (.nil rfl)))) rfl fun fr => ?_
    refine k_seq ?_
    refine k_seq (k_region ?_)
    refine o_loadN rfl rfl rfl sh28 rfl ?_
    refine o_call rfl (ret7n hi hv) (.lrefl _) ?_
    refine o_not rfl rfl ?_
    refine o_nil ?_
    refine k_cT rfl rfl ?_
    refine k_seq (k_region ?_)
    refine o_call rfl (r8) (.lrefl _) ?_
    refine o_assign rfl ?_
    refine o_nil ?_
    refine k_ret ?_
    refine ⟨.inr rfl, _, .cons _ _ _ _ (.tmp 6) .nil, ?_⟩
    exact .refl _
  · have hk := checkR_ok hv
    have hnl := hk.nl
    have htn := hk.tin
    have q11a := ret11 (orc := orc) hi m0 3 (by omega) (by omega)
    have q11b := ret11 (orc := orc) hi m1 b.lots.length (by omega) (by omega)
    have q11c := ret11 (orc := orc) hi m2 30 (by omega) (by omega)
    have hc3 : 0 ≤ m0 % 3 ∧ m0 % 3 < 3 := by omega
    have hkk : 0 ≤ m1 % (b.lots.length : Int) ∧ m1 % (b.lots.length : Int) < b.lots.length := ⟨Int.emod_nonneg _ (by omega), Int.emod_lt_of_pos _ (by omega)⟩
    have hby : 0 ≤ m2 % 30 ∧ m2 % 30 < 30 := by omega
    generalize m0 % 3 = c at hc3 q11a
    generalize m1 % (b.lots.length : Int) = k at hkk q11b
    generalize m2 % 30 = y at hby q11c
    obtain ⟨j, rfl⟩ : ∃ j : Nat, k = j := ⟨k.toNat, by omega⟩
    have hjl : j < b.lots.length := by omega
    obtain ⟨t, hq⟩ : ∃ t, b.lots[j]? = some t := ⟨b.lots[j], List.getElem?_eq_getElem hjl⟩
    have hb := hk.lots t (List.mem_of_getElem? hq)
    have q9 := ret9 (orc := orc) hi hk bits
    have hTl := tak_len b bits b.lots.length
    have hTx := tak_b hk bits b.lots.length
    generalize takI b bits b.lots.length = T at q9 hTl hTx
    have hTs := sum_bd (by omega) hTx
    have hTq := ask_ok hTx
    have q10 := ret10 (orc := orc) hi hk T hTl hTx hTs
    have hfl := triF_len b.lots
    by_cases hc0 : c = 0
    · have hk1 := tin_ok hk (lo := max 0 (b.tlo - y)) (hi := min 1000 (b.thi + y)) (by omega)
      have he1 := tin_easy b (lo := max 0 (b.tlo - y)) (hi := min 1000 (b.thi + y)) (by omega) (by omega)
      have q10x := ret10 (orc := orc) hi hk1 T hTl hTx hTs
      have himp := isM_mono he1 hTq hTs.1
      generalize isM b T = w at q10 himp
      generalize isM (b.tin (max 0 (b.tlo - y)) (min 1000 (b.thi + y))) T = v at q10x himp
      refine k_seq (k_region ?_)
      refine o_box rfl rfl ?_
      refine o_box rfl rfl ?_
      refine o_assign rfl ?_
      refine o_nil ?_
      refine k_gen [(1, U.lst Kd.ro 1 (intsU bits)), (3, U.box 0 0), (5, U.box 1 0)] ([SB.box [U.lst Kd.ro 3 (trisU (Bk.lots b)), .int .i64 (Bk.tlo b), .int .i64 (Bk.thi b), .int .i64 (Bk.thick b), .int .i64 (Bk.crack b), .int .i64 (Bk.glo b), .int .i64 (Bk.ghi b), U.lst Kd.ro 2 (twosU (Bk.thins b)), .int .i64 (Bk.hot b), .int .i64 (Bk.least b), .int .i64 (Bk.clo b), .int .i64 (Bk.chi b), .int .i64 (Bk.coal b), U.lst Kd.ro 3 (trisU (Bk.looks b))], SB.box [.int .i64 m0, .int .i64 m1, .int .i64 m2]]) (.cons rfl (.cons rfl (.cons rfl (.nil rfl)))) rfl fun fr => ?_
      refine k_seq ?_
      refine k_seq (k_region ?_)
      refine o_loadN rfl rfl rfl sh28 rfl ?_
      refine o_call rfl (ret7 hi hk) (.lrefl _) ?_
      refine o_not rfl rfl ?_
      refine o_nil ?_
      refine k_cF rfl rfl ?_
      refine k_skip ?_
      refine k_seq (k_region ?_)
      refine o_loadN rfl rfl rfl sh28 rfl ?_
      refine o_move rfl ?_
      refine o_call rfl (q9) (.lrefl _) ?_
      refine o_assign rfl ?_
      refine o_nil ?_
      refine k_seq (k_region ?_)
      refine o_loadN rfl rfl rfl sh28 rfl ?_
      refine o_move rfl ?_
      refine o_call rfl (q10) (.lrefl _) ?_
      refine o_move rfl ?_
      refine o_extract rfl rfl rfl ?_
      refine o_extract rfl rfl rfl ?_
      refine o_assign rfl ?_
      refine o_assign rfl ?_
      refine o_nil ?_
      refine k_gen [(3, U.box 0 0), (5, U.box 1 0), (7, U.lst Kd.ro 1 (intsU T)), (8, U.bool w), (9, .int .i64 0)] ([SB.box [U.lst Kd.ro 3 (trisU (Bk.lots b)), .int .i64 (Bk.tlo b), .int .i64 (Bk.thi b), .int .i64 (Bk.thick b), .int .i64 (Bk.crack b), .int .i64 (Bk.glo b), .int .i64 (Bk.ghi b), U.lst Kd.ro 2 (twosU (Bk.thins b)), .int .i64 (Bk.hot b), .int .i64 (Bk.least b), .int .i64 (Bk.clo b), .int .i64 (Bk.chi b), .int .i64 (Bk.coal b), U.lst Kd.ro 3 (trisU (Bk.looks b))], SB.box [.int .i64 m0, .int .i64 m1, .int .i64 m2]]) (.cons rfl (.cons rfl (.cons rfl (.cons rfl (.cons rfl (.nil rfl)))))) rfl fun fr => ?_
      refine k_seq (k_region ?_)
      refine o_loadN rfl rfl rfl sh28 rfl ?_
      refine o_alloc rfl ze28 ?_
      refine o_storeN rfl rfl sh28 rfl rfl rfl rfl rfl ?_
      refine o_nil ?_
      refine k_gen [(3, U.box 0 0), (5, U.box 1 0), (7, U.lst Kd.ro 1 (intsU T)), (8, U.bool w), (9, .int .i64 0), (10, U.box 2 0)] ([SB.box [U.lst Kd.ro 3 (trisU (Bk.lots b)), .int .i64 (Bk.tlo b), .int .i64 (Bk.thi b), .int .i64 (Bk.thick b), .int .i64 (Bk.crack b), .int .i64 (Bk.glo b), .int .i64 (Bk.ghi b), U.lst Kd.ro 2 (twosU (Bk.thins b)), .int .i64 (Bk.hot b), .int .i64 (Bk.least b), .int .i64 (Bk.clo b), .int .i64 (Bk.chi b), .int .i64 (Bk.coal b), U.lst Kd.ro 3 (trisU (Bk.looks b))], SB.box [.int .i64 m0, .int .i64 m1, .int .i64 m2], SB.box [U.lst Kd.ro 3 (trisU (Bk.lots b)), .int .i64 (Bk.tlo b), .int .i64 (Bk.thi b), .int .i64 (Bk.thick b), .int .i64 (Bk.crack b), .int .i64 (Bk.glo b), .int .i64 (Bk.ghi b), U.lst Kd.ro 2 (twosU (Bk.thins b)), .int .i64 (Bk.hot b), .int .i64 (Bk.least b), .int .i64 (Bk.clo b), .int .i64 (Bk.chi b), .int .i64 (Bk.coal b), U.lst Kd.ro 3 (trisU (Bk.looks b))]]) (.cons rfl (.cons rfl (.cons rfl (.cons rfl (.cons rfl (.cons rfl (.nil rfl))))))) rfl fun fr => ?_
      refine k_seq (k_region ?_)
      refine o_lit (es := []) rfl ty22 ze39 cl39 rfl rfl rfl rfl rfl rfl rfl rfl ?_
      refine o_faddr rfl rfl fld28_0 ?_
      refine o_load1 rfl rfl rfl sh22 rfl ?_
      refine o_appendB rfl ap22_22 rfl rfl (by simp) (by simp) (trisU_one _) (by rw [triF_flat, triF_dg]) (List.length_map _) (by omega) (by omega) ?_
      refine o_faddr rfl rfl fld28_0 ?_
      refine o_store1 rfl rfl sh22 rfl rfl ?_
      refine o_nil ?_
      refine k_gen [(3, U.box 0 0), (5, U.box 1 0), (7, U.lst Kd.ro 1 (intsU T)), (8, U.bool w), (9, .int .i64 0), (10, U.box 2 0)] ([SB.box [U.lst Kd.ro 3 (trisU (Bk.lots b)), .int .i64 (Bk.tlo b), .int .i64 (Bk.thi b), .int .i64 (Bk.thick b), .int .i64 (Bk.crack b), .int .i64 (Bk.glo b), .int .i64 (Bk.ghi b), U.lst Kd.ro 2 (twosU (Bk.thins b)), .int .i64 (Bk.hot b), .int .i64 (Bk.least b), .int .i64 (Bk.clo b), .int .i64 (Bk.chi b), .int .i64 (Bk.coal b), U.lst Kd.ro 3 (trisU (Bk.looks b))], SB.box [.int .i64 m0, .int .i64 m1, .int .i64 m2], SB.box [U.sl 3 0 (List.length (Bk.lots b)) 3, .int .i64 (Bk.tlo b), .int .i64 (Bk.thi b), .int .i64 (Bk.thick b), .int .i64 (Bk.crack b), .int .i64 (Bk.glo b), .int .i64 (Bk.ghi b), U.lst Kd.ro 2 (twosU (Bk.thins b)), .int .i64 (Bk.hot b), .int .i64 (Bk.least b), .int .i64 (Bk.clo b), .int .i64 (Bk.chi b), .int .i64 (Bk.coal b), U.lst Kd.ro 3 (trisU (Bk.looks b))], SB.box (triF (Bk.lots b))]) (.cons rfl (.cons rfl (.cons rfl (.cons rfl (.cons rfl (.cons rfl (.nil rfl))))))) rfl fun fr => ?_
      refine k_seq ?_
      refine k_draw [.plain, .read true, .plain, .read true, .read true, .read false, .plain, .read true, .plain, .plain, .plain] (by kernel_rfl) (by kernel_rfl) (by kernel_rfl) ?_
      refine d_plain (o_idxA rfl ty30 rfl rfl (by omega) (by omega) cl3 (o_nil rfl)) ?_
      refine d_load rfl (o_load1 rfl rfl rfl sh3 rfl (o_nil rfl)) ?_
      refine d_plain (o_faddr rfl rfl fld28_0 (o_nil rfl)) ?_
      refine d_load rfl (o_load1 rfl rfl rfl sh22 rfl (o_nil rfl)) ?_
      refine d_load rfl (o_len rfl ty22 rfl (List.length_map _) (o_nil rfl)) ?_
      refine d_callR rfl (q11b) (.int _ _) (.lrefl _) ?_
      refine d_plain (o_idxA rfl ty30 rfl rfl (by omega) (by omega) cl3 (o_nil rfl)) ?_
      refine d_load rfl (o_load1 rfl rfl rfl sh3 rfl (o_nil rfl)) ?_
      refine d_plain (o_call rfl (q11c) (.lrefl _) (o_nil rfl)) ?_
      refine d_plain (o_assign rfl (o_nil rfl)) ?_
      refine d_plain (o_assign rfl (o_nil rfl)) ?_
      refine d_nil ?_
      refine k_seq (k_region ?_)
      refine o_faddr rfl rfl fld28_0 ?_
      refine o_load1 rfl rfl rfl sh22 rfl ?_
      refine o_move rfl ?_
      refine o_idx (u := (t).u) rfl ty22 rfl rfl (Int.natCast_nonneg _) (by simp [hq]) cl39 ?_
      refine o_loadRN rfl rfl sh39 rfl ?_
      refine o_alloc rfl ze39 ?_
      refine o_storeN rfl rfl sh39 rfl rfl rfl rfl rfl ?_
      refine o_nil ?_
      refine k_gen [(3, U.box 0 0), (5, U.box 1 0), (7, U.lst Kd.ro 1 (intsU T)), (8, U.bool w), (9, .int .i64 0), (10, U.box 2 0), (11, .int .i64 ↑j), (12, .int .i64 y), (13, U.box 4 0)] ([SB.box [U.lst Kd.ro 3 (trisU (Bk.lots b)), .int .i64 (Bk.tlo b), .int .i64 (Bk.thi b), .int .i64 (Bk.thick b), .int .i64 (Bk.crack b), .int .i64 (Bk.glo b), .int .i64 (Bk.ghi b), U.lst Kd.ro 2 (twosU (Bk.thins b)), .int .i64 (Bk.hot b), .int .i64 (Bk.least b), .int .i64 (Bk.clo b), .int .i64 (Bk.chi b), .int .i64 (Bk.coal b), U.lst Kd.ro 3 (trisU (Bk.looks b))], SB.box [.int .i64 m0, .int .i64 m1, .int .i64 m2], SB.box [U.sl 3 0 (List.length (Bk.lots b)) 3, .int .i64 (Bk.tlo b), .int .i64 (Bk.thi b), .int .i64 (Bk.thick b), .int .i64 (Bk.crack b), .int .i64 (Bk.glo b), .int .i64 (Bk.ghi b), U.lst Kd.ro 2 (twosU (Bk.thins b)), .int .i64 (Bk.hot b), .int .i64 (Bk.least b), .int .i64 (Bk.clo b), .int .i64 (Bk.chi b), .int .i64 (Bk.coal b), U.lst Kd.ro 3 (trisU (Bk.looks b))], SB.box (triF (Bk.lots b)), SB.box [.int .i64 (Tri.a t), .int .i64 (Tri.b t), .int .i64 (Tri.c t)]]) (.cons rfl (.cons rfl (.cons rfl (.cons rfl (.cons rfl (.cons rfl (.cons rfl (.cons rfl (.cons rfl (.nil rfl)))))))))) rfl fun fr => ?_
      refine k_seq ?_
      refine k_seq (k_region ?_)
      refine o_idxA rfl ty30 rfl rfl (by omega) (by omega) cl3 ?_
      refine o_load1 rfl rfl rfl sh3 rfl ?_
      refine o_call rfl (q11a) (.lrefl _) ?_
      refine o_nil ?_
      refine k_block ?_
      refine k_seq (k_region ?_)
      refine o_eql rfl rfl rfl ?_
      refine o_assign rfl ?_
      refine o_nil ?_
      refine k_cT rfl (decide_eq_true (by omega)) ?_
      refine k_region ?_
      refine o_faddr rfl rfl fld28_1 ?_
      refine o_faddr rfl rfl fld24_0 ?_
      refine o_load1 rfl rfl rfl sh3 rfl ?_
      refine o_move rfl ?_
      refine o_sub rfl rfl rfl (by unfold I64; omega) ?_
      refine o_max rfl rfl rfl ?_
      refine o_faddr rfl rfl fld28_1 ?_
      refine o_faddr rfl rfl fld24_1 ?_
      refine o_load1 rfl rfl rfl sh3 rfl ?_
      refine o_genA [(7, U.lst Kd.ro 1 (intsU T)), (8, U.bool w), (9, .int .i64 0), (10, U.box 2 0), (12, .int .i64 y), (71, .int .i64 (Max.max (0 : Int) (Bk.tlo b - y))), (74, .int .i64 (Bk.thi b))] [] ([SB.box [U.lst Kd.ro 3 (trisU (Bk.lots b)), .int .i64 (Bk.tlo b), .int .i64 (Bk.thi b), .int .i64 (Bk.thick b), .int .i64 (Bk.crack b), .int .i64 (Bk.glo b), .int .i64 (Bk.ghi b), U.lst Kd.ro 2 (twosU (Bk.thins b)), .int .i64 (Bk.hot b), .int .i64 (Bk.least b), .int .i64 (Bk.clo b), .int .i64 (Bk.chi b), .int .i64 (Bk.coal b), U.lst Kd.ro 3 (trisU (Bk.looks b))], SB.box [.int .i64 m0, .int .i64 m1, .int .i64 m2], SB.box [U.sl 3 0 (List.length (Bk.lots b)) 3, .int .i64 (Bk.tlo b), .int .i64 (Bk.thi b), .int .i64 (Bk.thick b), .int .i64 (Bk.crack b), .int .i64 (Bk.glo b), .int .i64 (Bk.ghi b), U.lst Kd.ro 2 (twosU (Bk.thins b)), .int .i64 (Bk.hot b), .int .i64 (Bk.least b), .int .i64 (Bk.clo b), .int .i64 (Bk.chi b), .int .i64 (Bk.coal b), U.lst Kd.ro 3 (trisU (Bk.looks b))], SB.box (triF (Bk.lots b)), SB.box [.int .i64 (Tri.a t), .int .i64 (Tri.b t), .int .i64 (Tri.c t)]]) (.cons rfl (.cons rfl (.cons rfl (.cons rfl (.cons rfl (.cons rfl (.cons rfl (.nil rfl)))))))) rfl rfl fun fr => ?_
      refine o_move rfl ?_
      refine o_add rfl rfl rfl (by unfold I64; omega) ?_
      refine o_min rfl rfl rfl ?_
      refine o_call rfl (ret12 hi _ _) (.lrefl _) ?_
      refine o_faddr rfl rfl fld28_1 ?_
      refine o_storeN rfl rfl sh24 rfl rfl rfl rfl rfl ?_
      refine o_nil ?_
      refine k_gen [(7, U.lst Kd.ro 1 (intsU T)), (8, U.bool w), (9, .int .i64 0), (10, U.box 2 0)] ([SB.box [U.lst Kd.ro 3 (trisU (Bk.lots b)), .int .i64 (Bk.tlo b), .int .i64 (Bk.thi b), .int .i64 (Bk.thick b), .int .i64 (Bk.crack b), .int .i64 (Bk.glo b), .int .i64 (Bk.ghi b), U.lst Kd.ro 2 (twosU (Bk.thins b)), .int .i64 (Bk.hot b), .int .i64 (Bk.least b), .int .i64 (Bk.clo b), .int .i64 (Bk.chi b), .int .i64 (Bk.coal b), U.lst Kd.ro 3 (trisU (Bk.looks b))], SB.box [.int .i64 m0, .int .i64 m1, .int .i64 m2], SB.box [U.sl 3 0 (List.length (Bk.lots b)) 3, .int .i64 (Max.max (0 : Int) (Bk.tlo b - y)), .int .i64 (Min.min (1000 : Int) (Bk.thi b + y)), .int .i64 (Bk.thick b), .int .i64 (Bk.crack b), .int .i64 (Bk.glo b), .int .i64 (Bk.ghi b), U.lst Kd.ro 2 (twosU (Bk.thins b)), .int .i64 (Bk.hot b), .int .i64 (Bk.least b), .int .i64 (Bk.clo b), .int .i64 (Bk.chi b), .int .i64 (Bk.coal b), U.lst Kd.ro 3 (trisU (Bk.looks b))], SB.box (triF (Bk.lots b)), SB.box [.int .i64 (Tri.a t), .int .i64 (Tri.b t), .int .i64 (Tri.c t)]]) (.cons rfl (.cons rfl (.cons rfl (.cons rfl (.nil rfl))))) rfl fun fr => ?_
      have hfs : flatU (trisU (b.lots)) = (((triF (b.lots)).map dg).drop 0).take (b.lots.length * 3) := by
        rw [triF_dg, triF_flat, List.drop_zero, List.take_of_length_le (by rw [triF_len]; exact Nat.le_refl _)]
      have hez : ∀ e ∈ trisU (b.lots), (cellsU e).length = 3 := fun e he => by
        obtain ⟨q, _, rfl⟩ := List.mem_map.1 he; rfl
      have hel : (trisU (b.lots)).length = b.lots.length := by simp
      have hle : 0 + b.lots.length * 3 ≤ ((triF (b.lots)).map dg).length := by rw [List.length_map, triF_len]; omega
      cases w with
      | false =>
        refine k_seq (k_region ?_)
        refine o_frz (a := 3) rfl ?_
        refine o_loadN rfl rfl rfl sh28 rfl ?_
        refine o_see 108 rfl (fun _ => rfl) (.agg _ _ (.lcons _ _ _ _ (.sl _ _ _ _ _ _ rfl hfs hez hel hle) (.lrefl _))) ?_
        refine o_move rfl ?_
        refine o_call rfl (q10x) (.lrefl _) ?_
        refine o_move rfl ?_
        refine o_extract rfl rfl rfl ?_
        refine o_extract rfl rfl rfl ?_
        refine o_assign rfl ?_
        refine o_assign rfl ?_
        refine o_nil ?_
        refine k_seq (k_region ?_)
        refine o_move rfl ?_
        refine o_eql rfl rfl rfl ?_
        refine o_move rfl ?_
        refine o_gD rfl rfl rfl rfl rfl ?_
        refine o_move rfl ?_
        refine o_gD rfl rfl rfl rfl rfl ?_
        refine o_eql rfl rfl rfl ?_
        refine o_pickT rfl rfl rfl ?_
        refine o_move rfl ?_
        refine o_gD rfl rfl rfl rfl rfl ?_
        refine o_move rfl ?_
        refine o_gD rfl rfl rfl rfl rfl ?_
        refine o_not rfl rfl ?_
        refine o_genA [(15, U.bool v), (119, U.bool (Decidable.decide ((0 : Int) = (0 : Int)))), (121, U.bool !Bool.false)] [] ([SB.box [U.lst Kd.ro 3 (trisU (Bk.lots b)), .int .i64 (Bk.tlo b), .int .i64 (Bk.thi b), .int .i64 (Bk.thick b), .int .i64 (Bk.crack b), .int .i64 (Bk.glo b), .int .i64 (Bk.ghi b), U.lst Kd.ro 2 (twosU (Bk.thins b)), .int .i64 (Bk.hot b), .int .i64 (Bk.least b), .int .i64 (Bk.clo b), .int .i64 (Bk.chi b), .int .i64 (Bk.coal b), U.lst Kd.ro 3 (trisU (Bk.looks b))], SB.box [.int .i64 m0, .int .i64 m1, .int .i64 m2], SB.box [U.sl 3 0 (List.length (Bk.lots b)) 3, .int .i64 (Max.max (0 : Int) (Bk.tlo b - y)), .int .i64 (Min.min (1000 : Int) (Bk.thi b + y)), .int .i64 (Bk.thick b), .int .i64 (Bk.crack b), .int .i64 (Bk.glo b), .int .i64 (Bk.ghi b), U.lst Kd.ro 2 (twosU (Bk.thins b)), .int .i64 (Bk.hot b), .int .i64 (Bk.least b), .int .i64 (Bk.clo b), .int .i64 (Bk.chi b), .int .i64 (Bk.coal b), U.lst Kd.ro 3 (trisU (Bk.looks b))], SB.froz (List.map dg (triF (Bk.lots b))), SB.box [.int .i64 (Tri.a t), .int .i64 (Tri.b t), .int .i64 (Tri.c t)]]) (.cons rfl (.cons rfl (.cons rfl (.nil rfl)))) rfl rfl fun fr => ?_
        refine o_gD rfl rfl rfl rfl rfl ?_
        refine o_genA [(15, U.bool v), (119, U.bool (Decidable.decide ((0 : Int) = (0 : Int)))), (121, U.bool !Bool.false)] [] ([SB.box [U.lst Kd.ro 3 (trisU (Bk.lots b)), .int .i64 (Bk.tlo b), .int .i64 (Bk.thi b), .int .i64 (Bk.thick b), .int .i64 (Bk.crack b), .int .i64 (Bk.glo b), .int .i64 (Bk.ghi b), U.lst Kd.ro 2 (twosU (Bk.thins b)), .int .i64 (Bk.hot b), .int .i64 (Bk.least b), .int .i64 (Bk.clo b), .int .i64 (Bk.chi b), .int .i64 (Bk.coal b), U.lst Kd.ro 3 (trisU (Bk.looks b))], SB.box [.int .i64 m0, .int .i64 m1, .int .i64 m2], SB.box [U.sl 3 0 (List.length (Bk.lots b)) 3, .int .i64 (Max.max (0 : Int) (Bk.tlo b - y)), .int .i64 (Min.min (1000 : Int) (Bk.thi b + y)), .int .i64 (Bk.thick b), .int .i64 (Bk.crack b), .int .i64 (Bk.glo b), .int .i64 (Bk.ghi b), U.lst Kd.ro 2 (twosU (Bk.thins b)), .int .i64 (Bk.hot b), .int .i64 (Bk.least b), .int .i64 (Bk.clo b), .int .i64 (Bk.chi b), .int .i64 (Bk.coal b), U.lst Kd.ro 3 (trisU (Bk.looks b))], SB.froz (List.map dg (triF (Bk.lots b))), SB.box [.int .i64 (Tri.a t), .int .i64 (Tri.b t), .int .i64 (Tri.c t)]]) (.cons rfl (.cons rfl (.cons rfl (.nil rfl)))) rfl rfl fun fr => ?_
        refine o_move rfl ?_
        refine o_gS rfl rfl rfl rfl rfl ?_
        refine o_gD rfl rfl rfl rfl rfl ?_
        refine o_pickT rfl rfl rfl ?_
        refine o_pickT rfl rfl rfl ?_
        refine o_move rfl ?_
        refine o_gD rfl rfl rfl rfl rfl ?_
        refine o_call rfl (r8) (.lrefl _) ?_
        refine o_pickT rfl rfl rfl ?_
        refine o_assign rfl ?_
        refine o_nil ?_
        refine k_ret ?_
        refine ⟨.inr rfl, _, .cons _ _ _ _ (.tmp 6) .nil, ?_⟩
        exact .refl _
      | true =>
        have hv1 := himp rfl
        subst hv1
        refine k_seq (k_region ?_)
        refine o_frz (a := 3) rfl ?_
        refine o_loadN rfl rfl rfl sh28 rfl ?_
        refine o_see 108 rfl (fun _ => rfl) (.agg _ _ (.lcons _ _ _ _ (.sl _ _ _ _ _ _ rfl hfs hez hel hle) (.lrefl _))) ?_
        refine o_move rfl ?_
        refine o_call rfl (q10x) (.lrefl _) ?_
        refine o_move rfl ?_
        refine o_extract rfl rfl rfl ?_
        refine o_extract rfl rfl rfl ?_
        refine o_assign rfl ?_
        refine o_assign rfl ?_
        refine o_nil ?_
        refine k_seq (k_region ?_)
        refine o_move rfl ?_
        refine o_eql rfl rfl rfl ?_
        refine o_move rfl ?_
        refine o_gD rfl rfl rfl rfl rfl ?_
        refine o_move rfl ?_
        refine o_gD rfl rfl rfl rfl rfl ?_
        refine o_eql rfl rfl rfl ?_
        refine o_pickT rfl rfl rfl ?_
        refine o_move rfl ?_
        refine o_gD rfl rfl rfl rfl rfl ?_
        refine o_move rfl ?_
        refine o_gD rfl rfl rfl rfl rfl ?_
        refine o_not rfl rfl ?_
        refine o_genA [(15, U.bool Bool.true), (119, U.bool (Decidable.decide ((0 : Int) = (0 : Int)))), (121, U.bool !Bool.true)] [] ([SB.box [U.lst Kd.ro 3 (trisU (Bk.lots b)), .int .i64 (Bk.tlo b), .int .i64 (Bk.thi b), .int .i64 (Bk.thick b), .int .i64 (Bk.crack b), .int .i64 (Bk.glo b), .int .i64 (Bk.ghi b), U.lst Kd.ro 2 (twosU (Bk.thins b)), .int .i64 (Bk.hot b), .int .i64 (Bk.least b), .int .i64 (Bk.clo b), .int .i64 (Bk.chi b), .int .i64 (Bk.coal b), U.lst Kd.ro 3 (trisU (Bk.looks b))], SB.box [.int .i64 m0, .int .i64 m1, .int .i64 m2], SB.box [U.sl 3 0 (List.length (Bk.lots b)) 3, .int .i64 (Max.max (0 : Int) (Bk.tlo b - y)), .int .i64 (Min.min (1000 : Int) (Bk.thi b + y)), .int .i64 (Bk.thick b), .int .i64 (Bk.crack b), .int .i64 (Bk.glo b), .int .i64 (Bk.ghi b), U.lst Kd.ro 2 (twosU (Bk.thins b)), .int .i64 (Bk.hot b), .int .i64 (Bk.least b), .int .i64 (Bk.clo b), .int .i64 (Bk.chi b), .int .i64 (Bk.coal b), U.lst Kd.ro 3 (trisU (Bk.looks b))], SB.froz (List.map dg (triF (Bk.lots b))), SB.box [.int .i64 (Tri.a t), .int .i64 (Tri.b t), .int .i64 (Tri.c t)]]) (.cons rfl (.cons rfl (.cons rfl (.nil rfl)))) rfl rfl fun fr => ?_
        refine o_gD rfl rfl rfl rfl rfl ?_
        refine o_genA [(15, U.bool Bool.true), (119, U.bool (Decidable.decide ((0 : Int) = (0 : Int)))), (121, U.bool !Bool.true)] [] ([SB.box [U.lst Kd.ro 3 (trisU (Bk.lots b)), .int .i64 (Bk.tlo b), .int .i64 (Bk.thi b), .int .i64 (Bk.thick b), .int .i64 (Bk.crack b), .int .i64 (Bk.glo b), .int .i64 (Bk.ghi b), U.lst Kd.ro 2 (twosU (Bk.thins b)), .int .i64 (Bk.hot b), .int .i64 (Bk.least b), .int .i64 (Bk.clo b), .int .i64 (Bk.chi b), .int .i64 (Bk.coal b), U.lst Kd.ro 3 (trisU (Bk.looks b))], SB.box [.int .i64 m0, .int .i64 m1, .int .i64 m2], SB.box [U.sl 3 0 (List.length (Bk.lots b)) 3, .int .i64 (Max.max (0 : Int) (Bk.tlo b - y)), .int .i64 (Min.min (1000 : Int) (Bk.thi b + y)), .int .i64 (Bk.thick b), .int .i64 (Bk.crack b), .int .i64 (Bk.glo b), .int .i64 (Bk.ghi b), U.lst Kd.ro 2 (twosU (Bk.thins b)), .int .i64 (Bk.hot b), .int .i64 (Bk.least b), .int .i64 (Bk.clo b), .int .i64 (Bk.chi b), .int .i64 (Bk.coal b), U.lst Kd.ro 3 (trisU (Bk.looks b))], SB.froz (List.map dg (triF (Bk.lots b))), SB.box [.int .i64 (Tri.a t), .int .i64 (Tri.b t), .int .i64 (Tri.c t)]]) (.cons rfl (.cons rfl (.cons rfl (.nil rfl)))) rfl rfl fun fr => ?_
        refine o_move rfl ?_
        refine o_gD rfl rfl rfl rfl rfl ?_
        refine o_move rfl ?_
        refine o_gD rfl rfl rfl rfl rfl ?_
        refine o_pickF rfl rfl rfl ?_
        refine o_pickT rfl rfl rfl ?_
        refine o_move rfl ?_
        refine o_gD rfl rfl rfl rfl rfl ?_
        refine o_call rfl (r8) (.lrefl _) ?_
        refine o_pickT rfl rfl rfl ?_
        refine o_assign rfl ?_
        refine o_nil ?_
        refine k_ret ?_
        refine ⟨.inr rfl, _, .cons _ _ _ _ (.tmp 6) .nil, ?_⟩
        exact .refl _
    · by_cases hc1 : c = 1
      · have hlow : t.b ≤ min t.c (t.b + y) ∧ min t.c (t.b + y) ≤ t.c := by omega
        have hlow2 : min t.c (t.b + y) ≤ max (min t.c (t.b + y)) (t.c - y) ∧ max (min t.c (t.b + y)) (t.c - y) ≤ t.c := by omega
        have hk1 := lot_ok hk (j := j) (q := ⟨t.a, min t.c (t.b + y), max (min t.c (t.b + y)) (t.c - y)⟩) (by dsimp only; omega)
        have he1 := lot_easy (q := ⟨t.a, min t.c (t.b + y), max (min t.c (t.b + y)) (t.c - y)⟩) hq (by dsimp only; omega)
        have q10x := ret10 (orc := orc) hi hk1 T (by rw [hTl]; show _ = (b.lots.set j _).length; rw [List.length_set]) hTx hTs
        have himp := isM_mono he1 hTq hTs.1
        have hset : (triF b.lots).take (0 + ((j : Int)).toNat * 3) ++ [.int .i64 (⟨t.a, min t.c (t.b + y), max (min t.c (t.b + y)) (t.c - y)⟩ : Tri).a, .int .i64 (⟨t.a, min t.c (t.b + y), max (min t.c (t.b + y)) (t.c - y)⟩ : Tri).b, .int .i64 (⟨t.a, min t.c (t.b + y), max (min t.c (t.b + y)) (t.c - y)⟩ : Tri).c] ++ (triF b.lots).drop (0 + ((j : Int)).toNat * 3 + 3) = triF (b.lots.set j ⟨t.a, min t.c (t.b + y), max (min t.c (t.b + y)) (t.c - y)⟩) := by
          rw [Int.toNat_natCast, Nat.zero_add]; exact triF_set b.lots j _ hjl
        generalize isM b T = w at q10 himp
        generalize isM (b.lot j ⟨t.a, min t.c (t.b + y), max (min t.c (t.b + y)) (t.c - y)⟩) T = v at q10x himp
        refine k_seq (k_region ?_)
        refine o_box rfl rfl ?_
        refine o_box rfl rfl ?_
        refine o_assign rfl ?_
        refine o_nil ?_
        refine k_gen [(1, U.lst Kd.ro 1 (intsU bits)), (3, U.box 0 0), (5, U.box 1 0)] ([SB.box [U.lst Kd.ro 3 (trisU (Bk.lots b)), .int .i64 (Bk.tlo b), .int .i64 (Bk.thi b), .int .i64 (Bk.thick b), .int .i64 (Bk.crack b), .int .i64 (Bk.glo b), .int .i64 (Bk.ghi b), U.lst Kd.ro 2 (twosU (Bk.thins b)), .int .i64 (Bk.hot b), .int .i64 (Bk.least b), .int .i64 (Bk.clo b), .int .i64 (Bk.chi b), .int .i64 (Bk.coal b), U.lst Kd.ro 3 (trisU (Bk.looks b))], SB.box [.int .i64 m0, .int .i64 m1, .int .i64 m2]]) (.cons rfl (.cons rfl (.cons rfl (.nil rfl)))) rfl fun fr => ?_
        refine k_seq ?_
        refine k_seq (k_region ?_)
        refine o_loadN rfl rfl rfl sh28 rfl ?_
        refine o_call rfl (ret7 hi hk) (.lrefl _) ?_
        refine o_not rfl rfl ?_
        refine o_nil ?_
        refine k_cF rfl rfl ?_
        refine k_skip ?_
        refine k_seq (k_region ?_)
        refine o_loadN rfl rfl rfl sh28 rfl ?_
        refine o_move rfl ?_
        refine o_call rfl (q9) (.lrefl _) ?_
        refine o_assign rfl ?_
        refine o_nil ?_
        refine k_seq (k_region ?_)
        refine o_loadN rfl rfl rfl sh28 rfl ?_
        refine o_move rfl ?_
        refine o_call rfl (q10) (.lrefl _) ?_
        refine o_move rfl ?_
        refine o_extract rfl rfl rfl ?_
        refine o_extract rfl rfl rfl ?_
        refine o_assign rfl ?_
        refine o_assign rfl ?_
        refine o_nil ?_
        refine k_gen [(3, U.box 0 0), (5, U.box 1 0), (7, U.lst Kd.ro 1 (intsU T)), (8, U.bool w), (9, .int .i64 0)] ([SB.box [U.lst Kd.ro 3 (trisU (Bk.lots b)), .int .i64 (Bk.tlo b), .int .i64 (Bk.thi b), .int .i64 (Bk.thick b), .int .i64 (Bk.crack b), .int .i64 (Bk.glo b), .int .i64 (Bk.ghi b), U.lst Kd.ro 2 (twosU (Bk.thins b)), .int .i64 (Bk.hot b), .int .i64 (Bk.least b), .int .i64 (Bk.clo b), .int .i64 (Bk.chi b), .int .i64 (Bk.coal b), U.lst Kd.ro 3 (trisU (Bk.looks b))], SB.box [.int .i64 m0, .int .i64 m1, .int .i64 m2]]) (.cons rfl (.cons rfl (.cons rfl (.cons rfl (.cons rfl (.nil rfl)))))) rfl fun fr => ?_
        refine k_seq (k_region ?_)
        refine o_loadN rfl rfl rfl sh28 rfl ?_
        refine o_alloc rfl ze28 ?_
        refine o_storeN rfl rfl sh28 rfl rfl rfl rfl rfl ?_
        refine o_nil ?_
        refine k_gen [(3, U.box 0 0), (5, U.box 1 0), (7, U.lst Kd.ro 1 (intsU T)), (8, U.bool w), (9, .int .i64 0), (10, U.box 2 0)] ([SB.box [U.lst Kd.ro 3 (trisU (Bk.lots b)), .int .i64 (Bk.tlo b), .int .i64 (Bk.thi b), .int .i64 (Bk.thick b), .int .i64 (Bk.crack b), .int .i64 (Bk.glo b), .int .i64 (Bk.ghi b), U.lst Kd.ro 2 (twosU (Bk.thins b)), .int .i64 (Bk.hot b), .int .i64 (Bk.least b), .int .i64 (Bk.clo b), .int .i64 (Bk.chi b), .int .i64 (Bk.coal b), U.lst Kd.ro 3 (trisU (Bk.looks b))], SB.box [.int .i64 m0, .int .i64 m1, .int .i64 m2], SB.box [U.lst Kd.ro 3 (trisU (Bk.lots b)), .int .i64 (Bk.tlo b), .int .i64 (Bk.thi b), .int .i64 (Bk.thick b), .int .i64 (Bk.crack b), .int .i64 (Bk.glo b), .int .i64 (Bk.ghi b), U.lst Kd.ro 2 (twosU (Bk.thins b)), .int .i64 (Bk.hot b), .int .i64 (Bk.least b), .int .i64 (Bk.clo b), .int .i64 (Bk.chi b), .int .i64 (Bk.coal b), U.lst Kd.ro 3 (trisU (Bk.looks b))]]) (.cons rfl (.cons rfl (.cons rfl (.cons rfl (.cons rfl (.cons rfl (.nil rfl))))))) rfl fun fr => ?_
        refine k_seq (k_region ?_)
        refine o_lit (es := []) rfl ty22 ze39 cl39 rfl rfl rfl rfl rfl rfl rfl rfl ?_
        refine o_faddr rfl rfl fld28_0 ?_
        refine o_load1 rfl rfl rfl sh22 rfl ?_
        refine o_appendB rfl ap22_22 rfl rfl (by simp) (by simp) (trisU_one _) (by rw [triF_flat, triF_dg]) (List.length_map _) (by omega) (by omega) ?_
        refine o_faddr rfl rfl fld28_0 ?_
        refine o_store1 rfl rfl sh22 rfl rfl ?_
        refine o_nil ?_
        refine k_gen [(3, U.box 0 0), (5, U.box 1 0), (7, U.lst Kd.ro 1 (intsU T)), (8, U.bool w), (9, .int .i64 0), (10, U.box 2 0)] ([SB.box [U.lst Kd.ro 3 (trisU (Bk.lots b)), .int .i64 (Bk.tlo b), .int .i64 (Bk.thi b), .int .i64 (Bk.thick b), .int .i64 (Bk.crack b), .int .i64 (Bk.glo b), .int .i64 (Bk.ghi b), U.lst Kd.ro 2 (twosU (Bk.thins b)), .int .i64 (Bk.hot b), .int .i64 (Bk.least b), .int .i64 (Bk.clo b), .int .i64 (Bk.chi b), .int .i64 (Bk.coal b), U.lst Kd.ro 3 (trisU (Bk.looks b))], SB.box [.int .i64 m0, .int .i64 m1, .int .i64 m2], SB.box [U.sl 3 0 (List.length (Bk.lots b)) 3, .int .i64 (Bk.tlo b), .int .i64 (Bk.thi b), .int .i64 (Bk.thick b), .int .i64 (Bk.crack b), .int .i64 (Bk.glo b), .int .i64 (Bk.ghi b), U.lst Kd.ro 2 (twosU (Bk.thins b)), .int .i64 (Bk.hot b), .int .i64 (Bk.least b), .int .i64 (Bk.clo b), .int .i64 (Bk.chi b), .int .i64 (Bk.coal b), U.lst Kd.ro 3 (trisU (Bk.looks b))], SB.box (triF (Bk.lots b))]) (.cons rfl (.cons rfl (.cons rfl (.cons rfl (.cons rfl (.cons rfl (.nil rfl))))))) rfl fun fr => ?_
        refine k_seq ?_
        refine k_draw [.plain, .read true, .plain, .read true, .read true, .read false, .plain, .read true, .plain, .plain, .plain] (by kernel_rfl) (by kernel_rfl) (by kernel_rfl) ?_
        refine d_plain (o_idxA rfl ty30 rfl rfl (by omega) (by omega) cl3 (o_nil rfl)) ?_
        refine d_load rfl (o_load1 rfl rfl rfl sh3 rfl (o_nil rfl)) ?_
        refine d_plain (o_faddr rfl rfl fld28_0 (o_nil rfl)) ?_
        refine d_load rfl (o_load1 rfl rfl rfl sh22 rfl (o_nil rfl)) ?_
        refine d_load rfl (o_len rfl ty22 rfl (List.length_map _) (o_nil rfl)) ?_
        refine d_callR rfl (q11b) (.int _ _) (.lrefl _) ?_
        refine d_plain (o_idxA rfl ty30 rfl rfl (by omega) (by omega) cl3 (o_nil rfl)) ?_
        refine d_load rfl (o_load1 rfl rfl rfl sh3 rfl (o_nil rfl)) ?_
        refine d_plain (o_call rfl (q11c) (.lrefl _) (o_nil rfl)) ?_
        refine d_plain (o_assign rfl (o_nil rfl)) ?_
        refine d_plain (o_assign rfl (o_nil rfl)) ?_
        refine d_nil ?_
        refine k_seq (k_region ?_)
        refine o_faddr rfl rfl fld28_0 ?_
        refine o_load1 rfl rfl rfl sh22 rfl ?_
        refine o_move rfl ?_
        refine o_idx (u := (t).u) rfl ty22 rfl rfl (Int.natCast_nonneg _) (by simp [hq]) cl39 ?_
        refine o_loadRN rfl rfl sh39 rfl ?_
        refine o_alloc rfl ze39 ?_
        refine o_storeN rfl rfl sh39 rfl rfl rfl rfl rfl ?_
        refine o_nil ?_
        refine k_gen [(3, U.box 0 0), (5, U.box 1 0), (7, U.lst Kd.ro 1 (intsU T)), (8, U.bool w), (9, .int .i64 0), (10, U.box 2 0), (11, .int .i64 ↑j), (12, .int .i64 y), (13, U.box 4 0)] ([SB.box [U.lst Kd.ro 3 (trisU (Bk.lots b)), .int .i64 (Bk.tlo b), .int .i64 (Bk.thi b), .int .i64 (Bk.thick b), .int .i64 (Bk.crack b), .int .i64 (Bk.glo b), .int .i64 (Bk.ghi b), U.lst Kd.ro 2 (twosU (Bk.thins b)), .int .i64 (Bk.hot b), .int .i64 (Bk.least b), .int .i64 (Bk.clo b), .int .i64 (Bk.chi b), .int .i64 (Bk.coal b), U.lst Kd.ro 3 (trisU (Bk.looks b))], SB.box [.int .i64 m0, .int .i64 m1, .int .i64 m2], SB.box [U.sl 3 0 (List.length (Bk.lots b)) 3, .int .i64 (Bk.tlo b), .int .i64 (Bk.thi b), .int .i64 (Bk.thick b), .int .i64 (Bk.crack b), .int .i64 (Bk.glo b), .int .i64 (Bk.ghi b), U.lst Kd.ro 2 (twosU (Bk.thins b)), .int .i64 (Bk.hot b), .int .i64 (Bk.least b), .int .i64 (Bk.clo b), .int .i64 (Bk.chi b), .int .i64 (Bk.coal b), U.lst Kd.ro 3 (trisU (Bk.looks b))], SB.box (triF (Bk.lots b)), SB.box [.int .i64 (Tri.a t), .int .i64 (Tri.b t), .int .i64 (Tri.c t)]]) (.cons rfl (.cons rfl (.cons rfl (.cons rfl (.cons rfl (.cons rfl (.cons rfl (.cons rfl (.cons rfl (.nil rfl)))))))))) rfl fun fr => ?_
        refine k_seq ?_
        refine k_seq (k_region ?_)
        refine o_idxA rfl ty30 rfl rfl (by omega) (by omega) cl3 ?_
        refine o_load1 rfl rfl rfl sh3 rfl ?_
        refine o_call rfl (q11a) (.lrefl _) ?_
        refine o_nil ?_
        refine k_block ?_
        refine k_seq (k_region ?_)
        refine o_eql rfl rfl rfl ?_
        refine o_assign rfl ?_
        refine o_nil ?_
        refine k_cF rfl (decide_eq_false (by omega)) ?_
        refine k_seq (k_region ?_)
        refine o_eql rfl rfl rfl ?_
        refine o_assign rfl ?_
        refine o_nil ?_
        refine k_cT rfl (decide_eq_true (by omega)) ?_
        refine k_seq (k_region ?_)
        refine o_faddr rfl rfl fld39_1 ?_
        refine o_faddr rfl rfl fld24_1 ?_
        refine o_load1 rfl rfl rfl sh3 rfl ?_
        refine o_faddr rfl rfl fld39_1 ?_
        refine o_faddr rfl rfl fld24_0 ?_
        refine o_load1 rfl rfl rfl sh3 rfl ?_
        refine o_move rfl ?_
        refine o_add rfl rfl rfl (by unfold I64; omega) ?_
        refine o_min rfl rfl rfl ?_
        refine o_assign rfl ?_
        refine o_nil ?_
        refine k_gen [(7, U.lst Kd.ro 1 (intsU T)), (8, U.bool w), (9, .int .i64 0), (10, U.box 2 0), (11, .int .i64 ↑j), (12, .int .i64 y), (13, U.box 4 0), (14, .int .i64 (Min.min (Tri.c t) (Tri.b t + y)))] ([SB.box [U.lst Kd.ro 3 (trisU (Bk.lots b)), .int .i64 (Bk.tlo b), .int .i64 (Bk.thi b), .int .i64 (Bk.thick b), .int .i64 (Bk.crack b), .int .i64 (Bk.glo b), .int .i64 (Bk.ghi b), U.lst Kd.ro 2 (twosU (Bk.thins b)), .int .i64 (Bk.hot b), .int .i64 (Bk.least b), .int .i64 (Bk.clo b), .int .i64 (Bk.chi b), .int .i64 (Bk.coal b), U.lst Kd.ro 3 (trisU (Bk.looks b))], SB.box [.int .i64 m0, .int .i64 m1, .int .i64 m2], SB.box [U.sl 3 0 (List.length (Bk.lots b)) 3, .int .i64 (Bk.tlo b), .int .i64 (Bk.thi b), .int .i64 (Bk.thick b), .int .i64 (Bk.crack b), .int .i64 (Bk.glo b), .int .i64 (Bk.ghi b), U.lst Kd.ro 2 (twosU (Bk.thins b)), .int .i64 (Bk.hot b), .int .i64 (Bk.least b), .int .i64 (Bk.clo b), .int .i64 (Bk.chi b), .int .i64 (Bk.coal b), U.lst Kd.ro 3 (trisU (Bk.looks b))], SB.box (triF (Bk.lots b)), SB.box [.int .i64 (Tri.a t), .int .i64 (Tri.b t), .int .i64 (Tri.c t)]]) (.cons rfl (.cons rfl (.cons rfl (.cons rfl (.cons rfl (.cons rfl (.cons rfl (.cons rfl (.nil rfl))))))))) rfl fun fr => ?_
        refine k_draw [.plain, .read true, .plain, .plain, .read true, .plain, .plain, .plain, .plain, .read true, .plain, .plain, .read true, .read false, .plain, .plain, .plain] (by kernel_rfl) (by kernel_rfl) (by kernel_rfl) ?_
        refine d_plain (o_faddr rfl rfl fld28_0 (o_nil rfl)) ?_
        refine d_load rfl (o_load1 rfl rfl rfl sh22 rfl (o_nil rfl)) ?_
        refine d_plain (o_move rfl (o_nil rfl)) ?_
        refine d_plain (o_faddr rfl rfl fld39_0 (o_nil rfl)) ?_
        refine d_load rfl (o_load1 rfl rfl rfl sh3 rfl (o_nil rfl)) ?_
        refine d_plain (o_move rfl (o_nil rfl)) ?_
        refine d_plain (o_move rfl (o_nil rfl)) ?_
        refine d_plain (o_faddr rfl rfl fld39_1 (o_nil rfl)) ?_
        refine d_plain (o_faddr rfl rfl fld24_1 (o_nil rfl)) ?_
        refine d_genA [(7, U.lst Kd.ro 1 (intsU T)), (8, U.bool w), (9, .int .i64 0), (10, U.box 2 0), (12, .int .i64 y), (92, U.sl 3 0 (List.length (Bk.lots b)) 3), (93, .int .i64 ↑j), (95, .int .i64 (Tri.a t)), (96, .int .i64 (Min.min (Tri.c t) (Tri.b t + y))), (97, .int .i64 (Min.min (Tri.c t) (Tri.b t + y))), (99, U.box 4 2)] [] ([SB.box [U.lst Kd.ro 3 (trisU (Bk.lots b)), .int .i64 (Bk.tlo b), .int .i64 (Bk.thi b), .int .i64 (Bk.thick b), .int .i64 (Bk.crack b), .int .i64 (Bk.glo b), .int .i64 (Bk.ghi b), U.lst Kd.ro 2 (twosU (Bk.thins b)), .int .i64 (Bk.hot b), .int .i64 (Bk.least b), .int .i64 (Bk.clo b), .int .i64 (Bk.chi b), .int .i64 (Bk.coal b), U.lst Kd.ro 3 (trisU (Bk.looks b))], SB.box [.int .i64 m0, .int .i64 m1, .int .i64 m2], SB.box [U.sl 3 0 (List.length (Bk.lots b)) 3, .int .i64 (Bk.tlo b), .int .i64 (Bk.thi b), .int .i64 (Bk.thick b), .int .i64 (Bk.crack b), .int .i64 (Bk.glo b), .int .i64 (Bk.ghi b), U.lst Kd.ro 2 (twosU (Bk.thins b)), .int .i64 (Bk.hot b), .int .i64 (Bk.least b), .int .i64 (Bk.clo b), .int .i64 (Bk.chi b), .int .i64 (Bk.coal b), U.lst Kd.ro 3 (trisU (Bk.looks b))], SB.box (triF (Bk.lots b)), SB.box [.int .i64 (Tri.a t), .int .i64 (Tri.b t), .int .i64 (Tri.c t)]]) (.cons rfl (.cons rfl (.cons rfl (.cons rfl (.cons rfl (.cons rfl (.cons rfl (.cons rfl (.cons rfl (.cons rfl (.cons rfl (.nil rfl)))))))))))) rfl rfl fun fr => ?_
        refine d_load rfl (o_load1 rfl rfl rfl sh3 rfl (o_nil rfl)) ?_
        refine d_plain (o_move rfl (o_nil rfl)) ?_
        refine d_plain (o_sub rfl rfl rfl (by unfold I64; omega) (o_nil rfl)) ?_
        refine d_load rfl (o_max rfl rfl rfl (o_nil rfl)) ?_
        refine d_callR rfl (ret12 hi _ _) (flat_span _ _) (.lrefl _) ?_
        refine d_plain (o_build rfl ze39 pl39 rfl rfl (o_nil rfl)) ?_
        refine d_plain (o_idxS rfl ty22 rfl rfl (Int.natCast_nonneg _) (by omega) cl39 (o_nil rfl)) ?_
        refine d_plain (o_storeNW rfl rfl sh39 rfl rfl rfl (by rw [hfl]; omega) rfl hset (o_nil rfl)) ?_
        refine d_nil ?_
        refine k_gen [(7, U.lst Kd.ro 1 (intsU T)), (8, U.bool w), (9, .int .i64 0), (10, U.box 2 0)] ([SB.box [U.lst Kd.ro 3 (trisU (Bk.lots b)), .int .i64 (Bk.tlo b), .int .i64 (Bk.thi b), .int .i64 (Bk.thick b), .int .i64 (Bk.crack b), .int .i64 (Bk.glo b), .int .i64 (Bk.ghi b), U.lst Kd.ro 2 (twosU (Bk.thins b)), .int .i64 (Bk.hot b), .int .i64 (Bk.least b), .int .i64 (Bk.clo b), .int .i64 (Bk.chi b), .int .i64 (Bk.coal b), U.lst Kd.ro 3 (trisU (Bk.looks b))], SB.box [.int .i64 m0, .int .i64 m1, .int .i64 m2], SB.box [U.sl 3 0 (List.length (Bk.lots b)) 3, .int .i64 (Bk.tlo b), .int .i64 (Bk.thi b), .int .i64 (Bk.thick b), .int .i64 (Bk.crack b), .int .i64 (Bk.glo b), .int .i64 (Bk.ghi b), U.lst Kd.ro 2 (twosU (Bk.thins b)), .int .i64 (Bk.hot b), .int .i64 (Bk.least b), .int .i64 (Bk.clo b), .int .i64 (Bk.chi b), .int .i64 (Bk.coal b), U.lst Kd.ro 3 (trisU (Bk.looks b))], SB.box (triF (List.set (Bk.lots b) j { a := Tri.a t, b := Min.min (Tri.c t) (Tri.b t + y), c := Max.max (Min.min (Tri.c t) (Tri.b t + y)) (Tri.c t - y) })), SB.box [.int .i64 (Tri.a t), .int .i64 (Tri.b t), .int .i64 (Tri.c t)]]) (.cons rfl (.cons rfl (.cons rfl (.cons rfl (.nil rfl))))) rfl fun fr => ?_
        have hfs : flatU (trisU (b.lots.set j ⟨t.a, min t.c (t.b + y), max (min t.c (t.b + y)) (t.c - y)⟩)) = (((triF (b.lots.set j ⟨t.a, min t.c (t.b + y), max (min t.c (t.b + y)) (t.c - y)⟩)).map dg).drop 0).take (b.lots.length * 3) := by
          rw [triF_dg, triF_flat, List.drop_zero, List.take_of_length_le (by rw [triF_len, List.length_set]; exact Nat.le_refl _)]
        have hez : ∀ e ∈ trisU (b.lots.set j ⟨t.a, min t.c (t.b + y), max (min t.c (t.b + y)) (t.c - y)⟩), (cellsU e).length = 3 := fun e he => by
          obtain ⟨q, _, rfl⟩ := List.mem_map.1 he; rfl
        have hel : (trisU (b.lots.set j ⟨t.a, min t.c (t.b + y), max (min t.c (t.b + y)) (t.c - y)⟩)).length = b.lots.length := by simp
        have hle : 0 + b.lots.length * 3 ≤ ((triF (b.lots.set j ⟨t.a, min t.c (t.b + y), max (min t.c (t.b + y)) (t.c - y)⟩)).map dg).length := by rw [List.length_map, triF_len, List.length_set]; omega
        cases w with
        | false =>
          refine k_seq (k_region ?_)
          refine o_frz (a := 3) rfl ?_
          refine o_loadN rfl rfl rfl sh28 rfl ?_
          refine o_see 108 rfl (fun _ => rfl) (.agg _ _ (.lcons _ _ _ _ (.sl _ _ _ _ _ _ rfl hfs hez hel hle) (.lrefl _))) ?_
          refine o_move rfl ?_
          refine o_call rfl (q10x) (.lrefl _) ?_
          refine o_move rfl ?_
          refine o_extract rfl rfl rfl ?_
          refine o_extract rfl rfl rfl ?_
          refine o_assign rfl ?_
          refine o_assign rfl ?_
          refine o_nil ?_
          refine k_gen [(8, U.bool Bool.false), (9, .int .i64 0), (15, U.bool v), (16, .int .i64 0)] ([SB.box [U.lst Kd.ro 3 (trisU (Bk.lots b)), .int .i64 (Bk.tlo b), .int .i64 (Bk.thi b), .int .i64 (Bk.thick b), .int .i64 (Bk.crack b), .int .i64 (Bk.glo b), .int .i64 (Bk.ghi b), U.lst Kd.ro 2 (twosU (Bk.thins b)), .int .i64 (Bk.hot b), .int .i64 (Bk.least b), .int .i64 (Bk.clo b), .int .i64 (Bk.chi b), .int .i64 (Bk.coal b), U.lst Kd.ro 3 (trisU (Bk.looks b))], SB.box [.int .i64 m0, .int .i64 m1, .int .i64 m2], SB.box [U.sl 3 0 (List.length (Bk.lots b)) 3, .int .i64 (Bk.tlo b), .int .i64 (Bk.thi b), .int .i64 (Bk.thick b), .int .i64 (Bk.crack b), .int .i64 (Bk.glo b), .int .i64 (Bk.ghi b), U.lst Kd.ro 2 (twosU (Bk.thins b)), .int .i64 (Bk.hot b), .int .i64 (Bk.least b), .int .i64 (Bk.clo b), .int .i64 (Bk.chi b), .int .i64 (Bk.coal b), U.lst Kd.ro 3 (trisU (Bk.looks b))], SB.froz (List.map dg (triF (List.set (Bk.lots b) j { a := Tri.a t, b := Min.min (Tri.c t) (Tri.b t + y), c := Max.max (Min.min (Tri.c t) (Tri.b t + y)) (Tri.c t - y) }))), SB.box [.int .i64 (Tri.a t), .int .i64 (Tri.b t), .int .i64 (Tri.c t)]]) (.cons rfl (.cons rfl (.cons rfl (.cons rfl (.nil rfl))))) rfl fun fr => ?_
          refine k_seq (k_region ?_)
          refine o_move rfl ?_
          refine o_eql rfl rfl rfl ?_
          refine o_move rfl ?_
          refine o_gD rfl rfl rfl rfl rfl ?_
          refine o_move rfl ?_
          refine o_gD rfl rfl rfl rfl rfl ?_
          refine o_eql rfl rfl rfl ?_
          refine o_pickT rfl rfl rfl ?_
          refine o_move rfl ?_
          refine o_gD rfl rfl rfl rfl rfl ?_
          refine o_move rfl ?_
          refine o_gD rfl rfl rfl rfl rfl ?_
          refine o_not rfl rfl ?_
          refine o_genA [(15, U.bool v), (119, U.bool (Decidable.decide ((0 : Int) = (0 : Int)))), (121, U.bool !Bool.false)] [] ([SB.box [U.lst Kd.ro 3 (trisU (Bk.lots b)), .int .i64 (Bk.tlo b), .int .i64 (Bk.thi b), .int .i64 (Bk.thick b), .int .i64 (Bk.crack b), .int .i64 (Bk.glo b), .int .i64 (Bk.ghi b), U.lst Kd.ro 2 (twosU (Bk.thins b)), .int .i64 (Bk.hot b), .int .i64 (Bk.least b), .int .i64 (Bk.clo b), .int .i64 (Bk.chi b), .int .i64 (Bk.coal b), U.lst Kd.ro 3 (trisU (Bk.looks b))], SB.box [.int .i64 m0, .int .i64 m1, .int .i64 m2], SB.box [U.sl 3 0 (List.length (Bk.lots b)) 3, .int .i64 (Bk.tlo b), .int .i64 (Bk.thi b), .int .i64 (Bk.thick b), .int .i64 (Bk.crack b), .int .i64 (Bk.glo b), .int .i64 (Bk.ghi b), U.lst Kd.ro 2 (twosU (Bk.thins b)), .int .i64 (Bk.hot b), .int .i64 (Bk.least b), .int .i64 (Bk.clo b), .int .i64 (Bk.chi b), .int .i64 (Bk.coal b), U.lst Kd.ro 3 (trisU (Bk.looks b))], SB.froz (List.map dg (triF (List.set (Bk.lots b) j { a := Tri.a t, b := Min.min (Tri.c t) (Tri.b t + y), c := Max.max (Min.min (Tri.c t) (Tri.b t + y)) (Tri.c t - y) }))), SB.box [.int .i64 (Tri.a t), .int .i64 (Tri.b t), .int .i64 (Tri.c t)]]) (.cons rfl (.cons rfl (.cons rfl (.nil rfl)))) rfl rfl fun fr => ?_
          refine o_gD rfl rfl rfl rfl rfl ?_
          refine o_genA [(15, U.bool v), (119, U.bool (Decidable.decide ((0 : Int) = (0 : Int)))), (121, U.bool !Bool.false)] [] ([SB.box [U.lst Kd.ro 3 (trisU (Bk.lots b)), .int .i64 (Bk.tlo b), .int .i64 (Bk.thi b), .int .i64 (Bk.thick b), .int .i64 (Bk.crack b), .int .i64 (Bk.glo b), .int .i64 (Bk.ghi b), U.lst Kd.ro 2 (twosU (Bk.thins b)), .int .i64 (Bk.hot b), .int .i64 (Bk.least b), .int .i64 (Bk.clo b), .int .i64 (Bk.chi b), .int .i64 (Bk.coal b), U.lst Kd.ro 3 (trisU (Bk.looks b))], SB.box [.int .i64 m0, .int .i64 m1, .int .i64 m2], SB.box [U.sl 3 0 (List.length (Bk.lots b)) 3, .int .i64 (Bk.tlo b), .int .i64 (Bk.thi b), .int .i64 (Bk.thick b), .int .i64 (Bk.crack b), .int .i64 (Bk.glo b), .int .i64 (Bk.ghi b), U.lst Kd.ro 2 (twosU (Bk.thins b)), .int .i64 (Bk.hot b), .int .i64 (Bk.least b), .int .i64 (Bk.clo b), .int .i64 (Bk.chi b), .int .i64 (Bk.coal b), U.lst Kd.ro 3 (trisU (Bk.looks b))], SB.froz (List.map dg (triF (List.set (Bk.lots b) j { a := Tri.a t, b := Min.min (Tri.c t) (Tri.b t + y), c := Max.max (Min.min (Tri.c t) (Tri.b t + y)) (Tri.c t - y) }))), SB.box [.int .i64 (Tri.a t), .int .i64 (Tri.b t), .int .i64 (Tri.c t)]]) (.cons rfl (.cons rfl (.cons rfl (.nil rfl)))) rfl rfl fun fr => ?_
          refine o_move rfl ?_
          refine o_gS rfl rfl rfl rfl rfl ?_
          refine o_gD rfl rfl rfl rfl rfl ?_
          refine o_pickT rfl rfl rfl ?_
          refine o_pickT rfl rfl rfl ?_
          refine o_move rfl ?_
          refine o_gD rfl rfl rfl rfl rfl ?_
          refine o_call rfl (r8) (.lrefl _) ?_
          refine o_pickT rfl rfl rfl ?_
          refine o_assign rfl ?_
          refine o_nil ?_
          refine k_ret ?_
          refine ⟨.inr rfl, _, .cons _ _ _ _ (.tmp 6) .nil, ?_⟩
          exact .refl _
        | true =>
          have hv1 := himp rfl
          subst hv1
          refine k_seq (k_region ?_)
          refine o_frz (a := 3) rfl ?_
          refine o_loadN rfl rfl rfl sh28 rfl ?_
          refine o_see 108 rfl (fun _ => rfl) (.agg _ _ (.lcons _ _ _ _ (.sl _ _ _ _ _ _ rfl hfs hez hel hle) (.lrefl _))) ?_
          refine o_move rfl ?_
          refine o_call rfl (q10x) (.lrefl _) ?_
          refine o_move rfl ?_
          refine o_extract rfl rfl rfl ?_
          refine o_extract rfl rfl rfl ?_
          refine o_assign rfl ?_
          refine o_assign rfl ?_
          refine o_nil ?_
          refine k_gen [(8, U.bool Bool.true), (9, .int .i64 0), (15, U.bool Bool.true), (16, .int .i64 0)] ([SB.box [U.lst Kd.ro 3 (trisU (Bk.lots b)), .int .i64 (Bk.tlo b), .int .i64 (Bk.thi b), .int .i64 (Bk.thick b), .int .i64 (Bk.crack b), .int .i64 (Bk.glo b), .int .i64 (Bk.ghi b), U.lst Kd.ro 2 (twosU (Bk.thins b)), .int .i64 (Bk.hot b), .int .i64 (Bk.least b), .int .i64 (Bk.clo b), .int .i64 (Bk.chi b), .int .i64 (Bk.coal b), U.lst Kd.ro 3 (trisU (Bk.looks b))], SB.box [.int .i64 m0, .int .i64 m1, .int .i64 m2], SB.box [U.sl 3 0 (List.length (Bk.lots b)) 3, .int .i64 (Bk.tlo b), .int .i64 (Bk.thi b), .int .i64 (Bk.thick b), .int .i64 (Bk.crack b), .int .i64 (Bk.glo b), .int .i64 (Bk.ghi b), U.lst Kd.ro 2 (twosU (Bk.thins b)), .int .i64 (Bk.hot b), .int .i64 (Bk.least b), .int .i64 (Bk.clo b), .int .i64 (Bk.chi b), .int .i64 (Bk.coal b), U.lst Kd.ro 3 (trisU (Bk.looks b))], SB.froz (List.map dg (triF (List.set (Bk.lots b) j { a := Tri.a t, b := Min.min (Tri.c t) (Tri.b t + y), c := Max.max (Min.min (Tri.c t) (Tri.b t + y)) (Tri.c t - y) }))), SB.box [.int .i64 (Tri.a t), .int .i64 (Tri.b t), .int .i64 (Tri.c t)]]) (.cons rfl (.cons rfl (.cons rfl (.cons rfl (.nil rfl))))) rfl fun fr => ?_
          refine k_seq (k_region ?_)
          refine o_move rfl ?_
          refine o_eql rfl rfl rfl ?_
          refine o_move rfl ?_
          refine o_gD rfl rfl rfl rfl rfl ?_
          refine o_move rfl ?_
          refine o_gD rfl rfl rfl rfl rfl ?_
          refine o_eql rfl rfl rfl ?_
          refine o_pickT rfl rfl rfl ?_
          refine o_move rfl ?_
          refine o_gD rfl rfl rfl rfl rfl ?_
          refine o_move rfl ?_
          refine o_gD rfl rfl rfl rfl rfl ?_
          refine o_not rfl rfl ?_
          refine o_genA [(15, U.bool Bool.true), (119, U.bool (Decidable.decide ((0 : Int) = (0 : Int)))), (121, U.bool !Bool.true)] [] ([SB.box [U.lst Kd.ro 3 (trisU (Bk.lots b)), .int .i64 (Bk.tlo b), .int .i64 (Bk.thi b), .int .i64 (Bk.thick b), .int .i64 (Bk.crack b), .int .i64 (Bk.glo b), .int .i64 (Bk.ghi b), U.lst Kd.ro 2 (twosU (Bk.thins b)), .int .i64 (Bk.hot b), .int .i64 (Bk.least b), .int .i64 (Bk.clo b), .int .i64 (Bk.chi b), .int .i64 (Bk.coal b), U.lst Kd.ro 3 (trisU (Bk.looks b))], SB.box [.int .i64 m0, .int .i64 m1, .int .i64 m2], SB.box [U.sl 3 0 (List.length (Bk.lots b)) 3, .int .i64 (Bk.tlo b), .int .i64 (Bk.thi b), .int .i64 (Bk.thick b), .int .i64 (Bk.crack b), .int .i64 (Bk.glo b), .int .i64 (Bk.ghi b), U.lst Kd.ro 2 (twosU (Bk.thins b)), .int .i64 (Bk.hot b), .int .i64 (Bk.least b), .int .i64 (Bk.clo b), .int .i64 (Bk.chi b), .int .i64 (Bk.coal b), U.lst Kd.ro 3 (trisU (Bk.looks b))], SB.froz (List.map dg (triF (List.set (Bk.lots b) j { a := Tri.a t, b := Min.min (Tri.c t) (Tri.b t + y), c := Max.max (Min.min (Tri.c t) (Tri.b t + y)) (Tri.c t - y) }))), SB.box [.int .i64 (Tri.a t), .int .i64 (Tri.b t), .int .i64 (Tri.c t)]]) (.cons rfl (.cons rfl (.cons rfl (.nil rfl)))) rfl rfl fun fr => ?_
          refine o_gD rfl rfl rfl rfl rfl ?_
          refine o_genA [(15, U.bool Bool.true), (119, U.bool (Decidable.decide ((0 : Int) = (0 : Int)))), (121, U.bool !Bool.true)] [] ([SB.box [U.lst Kd.ro 3 (trisU (Bk.lots b)), .int .i64 (Bk.tlo b), .int .i64 (Bk.thi b), .int .i64 (Bk.thick b), .int .i64 (Bk.crack b), .int .i64 (Bk.glo b), .int .i64 (Bk.ghi b), U.lst Kd.ro 2 (twosU (Bk.thins b)), .int .i64 (Bk.hot b), .int .i64 (Bk.least b), .int .i64 (Bk.clo b), .int .i64 (Bk.chi b), .int .i64 (Bk.coal b), U.lst Kd.ro 3 (trisU (Bk.looks b))], SB.box [.int .i64 m0, .int .i64 m1, .int .i64 m2], SB.box [U.sl 3 0 (List.length (Bk.lots b)) 3, .int .i64 (Bk.tlo b), .int .i64 (Bk.thi b), .int .i64 (Bk.thick b), .int .i64 (Bk.crack b), .int .i64 (Bk.glo b), .int .i64 (Bk.ghi b), U.lst Kd.ro 2 (twosU (Bk.thins b)), .int .i64 (Bk.hot b), .int .i64 (Bk.least b), .int .i64 (Bk.clo b), .int .i64 (Bk.chi b), .int .i64 (Bk.coal b), U.lst Kd.ro 3 (trisU (Bk.looks b))], SB.froz (List.map dg (triF (List.set (Bk.lots b) j { a := Tri.a t, b := Min.min (Tri.c t) (Tri.b t + y), c := Max.max (Min.min (Tri.c t) (Tri.b t + y)) (Tri.c t - y) }))), SB.box [.int .i64 (Tri.a t), .int .i64 (Tri.b t), .int .i64 (Tri.c t)]]) (.cons rfl (.cons rfl (.cons rfl (.nil rfl)))) rfl rfl fun fr => ?_
          refine o_move rfl ?_
          refine o_gD rfl rfl rfl rfl rfl ?_
          refine o_move rfl ?_
          refine o_gD rfl rfl rfl rfl rfl ?_
          refine o_pickF rfl rfl rfl ?_
          refine o_pickT rfl rfl rfl ?_
          refine o_move rfl ?_
          refine o_gD rfl rfl rfl rfl rfl ?_
          refine o_call rfl (r8) (.lrefl _) ?_
          refine o_pickT rfl rfl rfl ?_
          refine o_assign rfl ?_
          refine o_nil ?_
          refine k_ret ?_
          refine ⟨.inr rfl, _, .cons _ _ _ _ (.tmp 6) .nil, ?_⟩
          exact .refl _
      · have hc2 : c = 2 := by omega
        have hk1 := lot_ok hk (j := j) (q := ⟨min 6 (t.a + 1), t.b, t.c⟩) (by dsimp only; omega)
        have he1 := lot_easy (q := ⟨min 6 (t.a + 1), t.b, t.c⟩) hq (by dsimp only; omega)
        have q10x := ret10 (orc := orc) hi hk1 T (by rw [hTl]; show _ = (b.lots.set j _).length; rw [List.length_set]) hTx hTs
        have himp := isM_mono he1 hTq hTs.1
        have hset : (triF b.lots).take (0 + ((j : Int)).toNat * 3) ++ [.int .i64 (⟨min 6 (t.a + 1), t.b, t.c⟩ : Tri).a, .int .i64 (⟨min 6 (t.a + 1), t.b, t.c⟩ : Tri).b, .int .i64 (⟨min 6 (t.a + 1), t.b, t.c⟩ : Tri).c] ++ (triF b.lots).drop (0 + ((j : Int)).toNat * 3 + 3) = triF (b.lots.set j ⟨min 6 (t.a + 1), t.b, t.c⟩) := by
          rw [Int.toNat_natCast, Nat.zero_add]; exact triF_set b.lots j _ hjl
        generalize isM b T = w at q10 himp
        generalize isM (b.lot j ⟨min 6 (t.a + 1), t.b, t.c⟩) T = v at q10x himp
        refine k_seq (k_region ?_)
        refine o_box rfl rfl ?_
        refine o_box rfl rfl ?_
        refine o_assign rfl ?_
        refine o_nil ?_
        refine k_gen [(1, U.lst Kd.ro 1 (intsU bits)), (3, U.box 0 0), (5, U.box 1 0)] ([SB.box [U.lst Kd.ro 3 (trisU (Bk.lots b)), .int .i64 (Bk.tlo b), .int .i64 (Bk.thi b), .int .i64 (Bk.thick b), .int .i64 (Bk.crack b), .int .i64 (Bk.glo b), .int .i64 (Bk.ghi b), U.lst Kd.ro 2 (twosU (Bk.thins b)), .int .i64 (Bk.hot b), .int .i64 (Bk.least b), .int .i64 (Bk.clo b), .int .i64 (Bk.chi b), .int .i64 (Bk.coal b), U.lst Kd.ro 3 (trisU (Bk.looks b))], SB.box [.int .i64 m0, .int .i64 m1, .int .i64 m2]]) (.cons rfl (.cons rfl (.cons rfl (.nil rfl)))) rfl fun fr => ?_
        refine k_seq ?_
        refine k_seq (k_region ?_)
        refine o_loadN rfl rfl rfl sh28 rfl ?_
        refine o_call rfl (ret7 hi hk) (.lrefl _) ?_
        refine o_not rfl rfl ?_
        refine o_nil ?_
        refine k_cF rfl rfl ?_
        refine k_skip ?_
        refine k_seq (k_region ?_)
        refine o_loadN rfl rfl rfl sh28 rfl ?_
        refine o_move rfl ?_
        refine o_call rfl (q9) (.lrefl _) ?_
        refine o_assign rfl ?_
        refine o_nil ?_
        refine k_seq (k_region ?_)
        refine o_loadN rfl rfl rfl sh28 rfl ?_
        refine o_move rfl ?_
        refine o_call rfl (q10) (.lrefl _) ?_
        refine o_move rfl ?_
        refine o_extract rfl rfl rfl ?_
        refine o_extract rfl rfl rfl ?_
        refine o_assign rfl ?_
        refine o_assign rfl ?_
        refine o_nil ?_
        refine k_gen [(3, U.box 0 0), (5, U.box 1 0), (7, U.lst Kd.ro 1 (intsU T)), (8, U.bool w), (9, .int .i64 0)] ([SB.box [U.lst Kd.ro 3 (trisU (Bk.lots b)), .int .i64 (Bk.tlo b), .int .i64 (Bk.thi b), .int .i64 (Bk.thick b), .int .i64 (Bk.crack b), .int .i64 (Bk.glo b), .int .i64 (Bk.ghi b), U.lst Kd.ro 2 (twosU (Bk.thins b)), .int .i64 (Bk.hot b), .int .i64 (Bk.least b), .int .i64 (Bk.clo b), .int .i64 (Bk.chi b), .int .i64 (Bk.coal b), U.lst Kd.ro 3 (trisU (Bk.looks b))], SB.box [.int .i64 m0, .int .i64 m1, .int .i64 m2]]) (.cons rfl (.cons rfl (.cons rfl (.cons rfl (.cons rfl (.nil rfl)))))) rfl fun fr => ?_
        refine k_seq (k_region ?_)
        refine o_loadN rfl rfl rfl sh28 rfl ?_
        refine o_alloc rfl ze28 ?_
        refine o_storeN rfl rfl sh28 rfl rfl rfl rfl rfl ?_
        refine o_nil ?_
        refine k_gen [(3, U.box 0 0), (5, U.box 1 0), (7, U.lst Kd.ro 1 (intsU T)), (8, U.bool w), (9, .int .i64 0), (10, U.box 2 0)] ([SB.box [U.lst Kd.ro 3 (trisU (Bk.lots b)), .int .i64 (Bk.tlo b), .int .i64 (Bk.thi b), .int .i64 (Bk.thick b), .int .i64 (Bk.crack b), .int .i64 (Bk.glo b), .int .i64 (Bk.ghi b), U.lst Kd.ro 2 (twosU (Bk.thins b)), .int .i64 (Bk.hot b), .int .i64 (Bk.least b), .int .i64 (Bk.clo b), .int .i64 (Bk.chi b), .int .i64 (Bk.coal b), U.lst Kd.ro 3 (trisU (Bk.looks b))], SB.box [.int .i64 m0, .int .i64 m1, .int .i64 m2], SB.box [U.lst Kd.ro 3 (trisU (Bk.lots b)), .int .i64 (Bk.tlo b), .int .i64 (Bk.thi b), .int .i64 (Bk.thick b), .int .i64 (Bk.crack b), .int .i64 (Bk.glo b), .int .i64 (Bk.ghi b), U.lst Kd.ro 2 (twosU (Bk.thins b)), .int .i64 (Bk.hot b), .int .i64 (Bk.least b), .int .i64 (Bk.clo b), .int .i64 (Bk.chi b), .int .i64 (Bk.coal b), U.lst Kd.ro 3 (trisU (Bk.looks b))]]) (.cons rfl (.cons rfl (.cons rfl (.cons rfl (.cons rfl (.cons rfl (.nil rfl))))))) rfl fun fr => ?_
        refine k_seq (k_region ?_)
        refine o_lit (es := []) rfl ty22 ze39 cl39 rfl rfl rfl rfl rfl rfl rfl rfl ?_
        refine o_faddr rfl rfl fld28_0 ?_
        refine o_load1 rfl rfl rfl sh22 rfl ?_
        refine o_appendB rfl ap22_22 rfl rfl (by simp) (by simp) (trisU_one _) (by rw [triF_flat, triF_dg]) (List.length_map _) (by omega) (by omega) ?_
        refine o_faddr rfl rfl fld28_0 ?_
        refine o_store1 rfl rfl sh22 rfl rfl ?_
        refine o_nil ?_
        refine k_gen [(3, U.box 0 0), (5, U.box 1 0), (7, U.lst Kd.ro 1 (intsU T)), (8, U.bool w), (9, .int .i64 0), (10, U.box 2 0)] ([SB.box [U.lst Kd.ro 3 (trisU (Bk.lots b)), .int .i64 (Bk.tlo b), .int .i64 (Bk.thi b), .int .i64 (Bk.thick b), .int .i64 (Bk.crack b), .int .i64 (Bk.glo b), .int .i64 (Bk.ghi b), U.lst Kd.ro 2 (twosU (Bk.thins b)), .int .i64 (Bk.hot b), .int .i64 (Bk.least b), .int .i64 (Bk.clo b), .int .i64 (Bk.chi b), .int .i64 (Bk.coal b), U.lst Kd.ro 3 (trisU (Bk.looks b))], SB.box [.int .i64 m0, .int .i64 m1, .int .i64 m2], SB.box [U.sl 3 0 (List.length (Bk.lots b)) 3, .int .i64 (Bk.tlo b), .int .i64 (Bk.thi b), .int .i64 (Bk.thick b), .int .i64 (Bk.crack b), .int .i64 (Bk.glo b), .int .i64 (Bk.ghi b), U.lst Kd.ro 2 (twosU (Bk.thins b)), .int .i64 (Bk.hot b), .int .i64 (Bk.least b), .int .i64 (Bk.clo b), .int .i64 (Bk.chi b), .int .i64 (Bk.coal b), U.lst Kd.ro 3 (trisU (Bk.looks b))], SB.box (triF (Bk.lots b))]) (.cons rfl (.cons rfl (.cons rfl (.cons rfl (.cons rfl (.cons rfl (.nil rfl))))))) rfl fun fr => ?_
        refine k_seq ?_
        refine k_draw [.plain, .read true, .plain, .read true, .read true, .read false, .plain, .read true, .plain, .plain, .plain] (by kernel_rfl) (by kernel_rfl) (by kernel_rfl) ?_
        refine d_plain (o_idxA rfl ty30 rfl rfl (by omega) (by omega) cl3 (o_nil rfl)) ?_
        refine d_load rfl (o_load1 rfl rfl rfl sh3 rfl (o_nil rfl)) ?_
        refine d_plain (o_faddr rfl rfl fld28_0 (o_nil rfl)) ?_
        refine d_load rfl (o_load1 rfl rfl rfl sh22 rfl (o_nil rfl)) ?_
        refine d_load rfl (o_len rfl ty22 rfl (List.length_map _) (o_nil rfl)) ?_
        refine d_callR rfl (q11b) (.int _ _) (.lrefl _) ?_
        refine d_plain (o_idxA rfl ty30 rfl rfl (by omega) (by omega) cl3 (o_nil rfl)) ?_
        refine d_load rfl (o_load1 rfl rfl rfl sh3 rfl (o_nil rfl)) ?_
        refine d_plain (o_call rfl (q11c) (.lrefl _) (o_nil rfl)) ?_
        refine d_plain (o_assign rfl (o_nil rfl)) ?_
        refine d_plain (o_assign rfl (o_nil rfl)) ?_
        refine d_nil ?_
        refine k_seq (k_region ?_)
        refine o_faddr rfl rfl fld28_0 ?_
        refine o_load1 rfl rfl rfl sh22 rfl ?_
        refine o_move rfl ?_
        refine o_idx (u := (t).u) rfl ty22 rfl rfl (Int.natCast_nonneg _) (by simp [hq]) cl39 ?_
        refine o_loadRN rfl rfl sh39 rfl ?_
        refine o_alloc rfl ze39 ?_
        refine o_storeN rfl rfl sh39 rfl rfl rfl rfl rfl ?_
        refine o_nil ?_
        refine k_gen [(3, U.box 0 0), (5, U.box 1 0), (7, U.lst Kd.ro 1 (intsU T)), (8, U.bool w), (9, .int .i64 0), (10, U.box 2 0), (11, .int .i64 ↑j), (12, .int .i64 y), (13, U.box 4 0)] ([SB.box [U.lst Kd.ro 3 (trisU (Bk.lots b)), .int .i64 (Bk.tlo b), .int .i64 (Bk.thi b), .int .i64 (Bk.thick b), .int .i64 (Bk.crack b), .int .i64 (Bk.glo b), .int .i64 (Bk.ghi b), U.lst Kd.ro 2 (twosU (Bk.thins b)), .int .i64 (Bk.hot b), .int .i64 (Bk.least b), .int .i64 (Bk.clo b), .int .i64 (Bk.chi b), .int .i64 (Bk.coal b), U.lst Kd.ro 3 (trisU (Bk.looks b))], SB.box [.int .i64 m0, .int .i64 m1, .int .i64 m2], SB.box [U.sl 3 0 (List.length (Bk.lots b)) 3, .int .i64 (Bk.tlo b), .int .i64 (Bk.thi b), .int .i64 (Bk.thick b), .int .i64 (Bk.crack b), .int .i64 (Bk.glo b), .int .i64 (Bk.ghi b), U.lst Kd.ro 2 (twosU (Bk.thins b)), .int .i64 (Bk.hot b), .int .i64 (Bk.least b), .int .i64 (Bk.clo b), .int .i64 (Bk.chi b), .int .i64 (Bk.coal b), U.lst Kd.ro 3 (trisU (Bk.looks b))], SB.box (triF (Bk.lots b)), SB.box [.int .i64 (Tri.a t), .int .i64 (Tri.b t), .int .i64 (Tri.c t)]]) (.cons rfl (.cons rfl (.cons rfl (.cons rfl (.cons rfl (.cons rfl (.cons rfl (.cons rfl (.cons rfl (.nil rfl)))))))))) rfl fun fr => ?_
        refine k_seq ?_
        refine k_seq (k_region ?_)
        refine o_idxA rfl ty30 rfl rfl (by omega) (by omega) cl3 ?_
        refine o_load1 rfl rfl rfl sh3 rfl ?_
        refine o_call rfl (q11a) (.lrefl _) ?_
        refine o_nil ?_
        refine k_block ?_
        refine k_seq (k_region ?_)
        refine o_eql rfl rfl rfl ?_
        refine o_assign rfl ?_
        refine o_nil ?_
        refine k_cF rfl (decide_eq_false (by omega)) ?_
        refine k_seq (k_region ?_)
        refine o_eql rfl rfl rfl ?_
        refine o_assign rfl ?_
        refine o_nil ?_
        refine k_cF rfl (decide_eq_false (by omega)) ?_
        refine k_region ?_
        refine o_faddr rfl rfl fld28_0 ?_
        refine o_load1 rfl rfl rfl sh22 rfl ?_
        refine o_move rfl ?_
        refine o_faddr rfl rfl fld39_0 ?_
        refine o_load1 rfl rfl rfl sh3 rfl ?_
        refine o_add rfl rfl rfl (by unfold I64; omega) ?_
        refine o_min rfl rfl rfl ?_
        refine o_faddr rfl rfl fld39_1 ?_
        refine o_loadN rfl rfl rfl sh24 rfl ?_
        refine o_build rfl ze39 pl39 rfl rfl ?_
        refine o_idxS rfl ty22 rfl rfl (Int.natCast_nonneg _) (by omega) cl39 ?_
        refine o_storeNW rfl rfl sh39 rfl rfl rfl (by rw [hfl]; omega) rfl hset ?_
        refine o_nil ?_
        refine k_gen [(7, U.lst Kd.ro 1 (intsU T)), (8, U.bool w), (9, .int .i64 0), (10, U.box 2 0)] ([SB.box [U.lst Kd.ro 3 (trisU (Bk.lots b)), .int .i64 (Bk.tlo b), .int .i64 (Bk.thi b), .int .i64 (Bk.thick b), .int .i64 (Bk.crack b), .int .i64 (Bk.glo b), .int .i64 (Bk.ghi b), U.lst Kd.ro 2 (twosU (Bk.thins b)), .int .i64 (Bk.hot b), .int .i64 (Bk.least b), .int .i64 (Bk.clo b), .int .i64 (Bk.chi b), .int .i64 (Bk.coal b), U.lst Kd.ro 3 (trisU (Bk.looks b))], SB.box [.int .i64 m0, .int .i64 m1, .int .i64 m2], SB.box [U.sl 3 0 (List.length (Bk.lots b)) 3, .int .i64 (Bk.tlo b), .int .i64 (Bk.thi b), .int .i64 (Bk.thick b), .int .i64 (Bk.crack b), .int .i64 (Bk.glo b), .int .i64 (Bk.ghi b), U.lst Kd.ro 2 (twosU (Bk.thins b)), .int .i64 (Bk.hot b), .int .i64 (Bk.least b), .int .i64 (Bk.clo b), .int .i64 (Bk.chi b), .int .i64 (Bk.coal b), U.lst Kd.ro 3 (trisU (Bk.looks b))], SB.box (triF (List.set (Bk.lots b) j { a := Min.min (6 : Int) (Tri.a t + (1 : Int)), b := Tri.b t, c := Tri.c t })), SB.box [.int .i64 (Tri.a t), .int .i64 (Tri.b t), .int .i64 (Tri.c t)]]) (.cons rfl (.cons rfl (.cons rfl (.cons rfl (.nil rfl))))) rfl fun fr => ?_
        have hfs : flatU (trisU (b.lots.set j ⟨min 6 (t.a + 1), t.b, t.c⟩)) = (((triF (b.lots.set j ⟨min 6 (t.a + 1), t.b, t.c⟩)).map dg).drop 0).take (b.lots.length * 3) := by
          rw [triF_dg, triF_flat, List.drop_zero, List.take_of_length_le (by rw [triF_len, List.length_set]; exact Nat.le_refl _)]
        have hez : ∀ e ∈ trisU (b.lots.set j ⟨min 6 (t.a + 1), t.b, t.c⟩), (cellsU e).length = 3 := fun e he => by
          obtain ⟨q, _, rfl⟩ := List.mem_map.1 he; rfl
        have hel : (trisU (b.lots.set j ⟨min 6 (t.a + 1), t.b, t.c⟩)).length = b.lots.length := by simp
        have hle : 0 + b.lots.length * 3 ≤ ((triF (b.lots.set j ⟨min 6 (t.a + 1), t.b, t.c⟩)).map dg).length := by rw [List.length_map, triF_len, List.length_set]; omega
        cases w with
        | false =>
          refine k_seq (k_region ?_)
          refine o_frz (a := 3) rfl ?_
          refine o_loadN rfl rfl rfl sh28 rfl ?_
          refine o_see 108 rfl (fun _ => rfl) (.agg _ _ (.lcons _ _ _ _ (.sl _ _ _ _ _ _ rfl hfs hez hel hle) (.lrefl _))) ?_
          refine o_move rfl ?_
          refine o_call rfl (q10x) (.lrefl _) ?_
          refine o_move rfl ?_
          refine o_extract rfl rfl rfl ?_
          refine o_extract rfl rfl rfl ?_
          refine o_assign rfl ?_
          refine o_assign rfl ?_
          refine o_nil ?_
          refine k_gen [(8, U.bool Bool.false), (9, .int .i64 0), (15, U.bool v), (16, .int .i64 0)] ([SB.box [U.lst Kd.ro 3 (trisU (Bk.lots b)), .int .i64 (Bk.tlo b), .int .i64 (Bk.thi b), .int .i64 (Bk.thick b), .int .i64 (Bk.crack b), .int .i64 (Bk.glo b), .int .i64 (Bk.ghi b), U.lst Kd.ro 2 (twosU (Bk.thins b)), .int .i64 (Bk.hot b), .int .i64 (Bk.least b), .int .i64 (Bk.clo b), .int .i64 (Bk.chi b), .int .i64 (Bk.coal b), U.lst Kd.ro 3 (trisU (Bk.looks b))], SB.box [.int .i64 m0, .int .i64 m1, .int .i64 m2], SB.box [U.sl 3 0 (List.length (Bk.lots b)) 3, .int .i64 (Bk.tlo b), .int .i64 (Bk.thi b), .int .i64 (Bk.thick b), .int .i64 (Bk.crack b), .int .i64 (Bk.glo b), .int .i64 (Bk.ghi b), U.lst Kd.ro 2 (twosU (Bk.thins b)), .int .i64 (Bk.hot b), .int .i64 (Bk.least b), .int .i64 (Bk.clo b), .int .i64 (Bk.chi b), .int .i64 (Bk.coal b), U.lst Kd.ro 3 (trisU (Bk.looks b))], SB.froz (List.map dg (triF (List.set (Bk.lots b) j { a := Min.min (6 : Int) (Tri.a t + (1 : Int)), b := Tri.b t, c := Tri.c t }))), SB.box [.int .i64 (Tri.a t), .int .i64 (Tri.b t), .int .i64 (Tri.c t)]]) (.cons rfl (.cons rfl (.cons rfl (.cons rfl (.nil rfl))))) rfl fun fr => ?_
          refine k_seq (k_region ?_)
          refine o_move rfl ?_
          refine o_eql rfl rfl rfl ?_
          refine o_move rfl ?_
          refine o_gD rfl rfl rfl rfl rfl ?_
          refine o_move rfl ?_
          refine o_gD rfl rfl rfl rfl rfl ?_
          refine o_eql rfl rfl rfl ?_
          refine o_pickT rfl rfl rfl ?_
          refine o_move rfl ?_
          refine o_gD rfl rfl rfl rfl rfl ?_
          refine o_move rfl ?_
          refine o_gD rfl rfl rfl rfl rfl ?_
          refine o_not rfl rfl ?_
          refine o_genA [(15, U.bool v), (119, U.bool (Decidable.decide ((0 : Int) = (0 : Int)))), (121, U.bool !Bool.false)] [] ([SB.box [U.lst Kd.ro 3 (trisU (Bk.lots b)), .int .i64 (Bk.tlo b), .int .i64 (Bk.thi b), .int .i64 (Bk.thick b), .int .i64 (Bk.crack b), .int .i64 (Bk.glo b), .int .i64 (Bk.ghi b), U.lst Kd.ro 2 (twosU (Bk.thins b)), .int .i64 (Bk.hot b), .int .i64 (Bk.least b), .int .i64 (Bk.clo b), .int .i64 (Bk.chi b), .int .i64 (Bk.coal b), U.lst Kd.ro 3 (trisU (Bk.looks b))], SB.box [.int .i64 m0, .int .i64 m1, .int .i64 m2], SB.box [U.sl 3 0 (List.length (Bk.lots b)) 3, .int .i64 (Bk.tlo b), .int .i64 (Bk.thi b), .int .i64 (Bk.thick b), .int .i64 (Bk.crack b), .int .i64 (Bk.glo b), .int .i64 (Bk.ghi b), U.lst Kd.ro 2 (twosU (Bk.thins b)), .int .i64 (Bk.hot b), .int .i64 (Bk.least b), .int .i64 (Bk.clo b), .int .i64 (Bk.chi b), .int .i64 (Bk.coal b), U.lst Kd.ro 3 (trisU (Bk.looks b))], SB.froz (List.map dg (triF (List.set (Bk.lots b) j { a := Min.min (6 : Int) (Tri.a t + (1 : Int)), b := Tri.b t, c := Tri.c t }))), SB.box [.int .i64 (Tri.a t), .int .i64 (Tri.b t), .int .i64 (Tri.c t)]]) (.cons rfl (.cons rfl (.cons rfl (.nil rfl)))) rfl rfl fun fr => ?_
          refine o_gD rfl rfl rfl rfl rfl ?_
          refine o_genA [(15, U.bool v), (119, U.bool (Decidable.decide ((0 : Int) = (0 : Int)))), (121, U.bool !Bool.false)] [] ([SB.box [U.lst Kd.ro 3 (trisU (Bk.lots b)), .int .i64 (Bk.tlo b), .int .i64 (Bk.thi b), .int .i64 (Bk.thick b), .int .i64 (Bk.crack b), .int .i64 (Bk.glo b), .int .i64 (Bk.ghi b), U.lst Kd.ro 2 (twosU (Bk.thins b)), .int .i64 (Bk.hot b), .int .i64 (Bk.least b), .int .i64 (Bk.clo b), .int .i64 (Bk.chi b), .int .i64 (Bk.coal b), U.lst Kd.ro 3 (trisU (Bk.looks b))], SB.box [.int .i64 m0, .int .i64 m1, .int .i64 m2], SB.box [U.sl 3 0 (List.length (Bk.lots b)) 3, .int .i64 (Bk.tlo b), .int .i64 (Bk.thi b), .int .i64 (Bk.thick b), .int .i64 (Bk.crack b), .int .i64 (Bk.glo b), .int .i64 (Bk.ghi b), U.lst Kd.ro 2 (twosU (Bk.thins b)), .int .i64 (Bk.hot b), .int .i64 (Bk.least b), .int .i64 (Bk.clo b), .int .i64 (Bk.chi b), .int .i64 (Bk.coal b), U.lst Kd.ro 3 (trisU (Bk.looks b))], SB.froz (List.map dg (triF (List.set (Bk.lots b) j { a := Min.min (6 : Int) (Tri.a t + (1 : Int)), b := Tri.b t, c := Tri.c t }))), SB.box [.int .i64 (Tri.a t), .int .i64 (Tri.b t), .int .i64 (Tri.c t)]]) (.cons rfl (.cons rfl (.cons rfl (.nil rfl)))) rfl rfl fun fr => ?_
          refine o_move rfl ?_
          refine o_gS rfl rfl rfl rfl rfl ?_
          refine o_gD rfl rfl rfl rfl rfl ?_
          refine o_pickT rfl rfl rfl ?_
          refine o_pickT rfl rfl rfl ?_
          refine o_move rfl ?_
          refine o_gD rfl rfl rfl rfl rfl ?_
          refine o_call rfl (r8) (.lrefl _) ?_
          refine o_pickT rfl rfl rfl ?_
          refine o_assign rfl ?_
          refine o_nil ?_
          refine k_ret ?_
          refine ⟨.inr rfl, _, .cons _ _ _ _ (.tmp 6) .nil, ?_⟩
          exact .refl _
        | true =>
          have hv1 := himp rfl
          subst hv1
          refine k_seq (k_region ?_)
          refine o_frz (a := 3) rfl ?_
          refine o_loadN rfl rfl rfl sh28 rfl ?_
          refine o_see 108 rfl (fun _ => rfl) (.agg _ _ (.lcons _ _ _ _ (.sl _ _ _ _ _ _ rfl hfs hez hel hle) (.lrefl _))) ?_
          refine o_move rfl ?_
          refine o_call rfl (q10x) (.lrefl _) ?_
          refine o_move rfl ?_
          refine o_extract rfl rfl rfl ?_
          refine o_extract rfl rfl rfl ?_
          refine o_assign rfl ?_
          refine o_assign rfl ?_
          refine o_nil ?_
          refine k_gen [(8, U.bool Bool.true), (9, .int .i64 0), (15, U.bool Bool.true), (16, .int .i64 0)] ([SB.box [U.lst Kd.ro 3 (trisU (Bk.lots b)), .int .i64 (Bk.tlo b), .int .i64 (Bk.thi b), .int .i64 (Bk.thick b), .int .i64 (Bk.crack b), .int .i64 (Bk.glo b), .int .i64 (Bk.ghi b), U.lst Kd.ro 2 (twosU (Bk.thins b)), .int .i64 (Bk.hot b), .int .i64 (Bk.least b), .int .i64 (Bk.clo b), .int .i64 (Bk.chi b), .int .i64 (Bk.coal b), U.lst Kd.ro 3 (trisU (Bk.looks b))], SB.box [.int .i64 m0, .int .i64 m1, .int .i64 m2], SB.box [U.sl 3 0 (List.length (Bk.lots b)) 3, .int .i64 (Bk.tlo b), .int .i64 (Bk.thi b), .int .i64 (Bk.thick b), .int .i64 (Bk.crack b), .int .i64 (Bk.glo b), .int .i64 (Bk.ghi b), U.lst Kd.ro 2 (twosU (Bk.thins b)), .int .i64 (Bk.hot b), .int .i64 (Bk.least b), .int .i64 (Bk.clo b), .int .i64 (Bk.chi b), .int .i64 (Bk.coal b), U.lst Kd.ro 3 (trisU (Bk.looks b))], SB.froz (List.map dg (triF (List.set (Bk.lots b) j { a := Min.min (6 : Int) (Tri.a t + (1 : Int)), b := Tri.b t, c := Tri.c t }))), SB.box [.int .i64 (Tri.a t), .int .i64 (Tri.b t), .int .i64 (Tri.c t)]]) (.cons rfl (.cons rfl (.cons rfl (.cons rfl (.nil rfl))))) rfl fun fr => ?_
          refine k_seq (k_region ?_)
          refine o_move rfl ?_
          refine o_eql rfl rfl rfl ?_
          refine o_move rfl ?_
          refine o_gD rfl rfl rfl rfl rfl ?_
          refine o_move rfl ?_
          refine o_gD rfl rfl rfl rfl rfl ?_
          refine o_eql rfl rfl rfl ?_
          refine o_pickT rfl rfl rfl ?_
          refine o_move rfl ?_
          refine o_gD rfl rfl rfl rfl rfl ?_
          refine o_move rfl ?_
          refine o_gD rfl rfl rfl rfl rfl ?_
          refine o_not rfl rfl ?_
          refine o_genA [(15, U.bool Bool.true), (119, U.bool (Decidable.decide ((0 : Int) = (0 : Int)))), (121, U.bool !Bool.true)] [] ([SB.box [U.lst Kd.ro 3 (trisU (Bk.lots b)), .int .i64 (Bk.tlo b), .int .i64 (Bk.thi b), .int .i64 (Bk.thick b), .int .i64 (Bk.crack b), .int .i64 (Bk.glo b), .int .i64 (Bk.ghi b), U.lst Kd.ro 2 (twosU (Bk.thins b)), .int .i64 (Bk.hot b), .int .i64 (Bk.least b), .int .i64 (Bk.clo b), .int .i64 (Bk.chi b), .int .i64 (Bk.coal b), U.lst Kd.ro 3 (trisU (Bk.looks b))], SB.box [.int .i64 m0, .int .i64 m1, .int .i64 m2], SB.box [U.sl 3 0 (List.length (Bk.lots b)) 3, .int .i64 (Bk.tlo b), .int .i64 (Bk.thi b), .int .i64 (Bk.thick b), .int .i64 (Bk.crack b), .int .i64 (Bk.glo b), .int .i64 (Bk.ghi b), U.lst Kd.ro 2 (twosU (Bk.thins b)), .int .i64 (Bk.hot b), .int .i64 (Bk.least b), .int .i64 (Bk.clo b), .int .i64 (Bk.chi b), .int .i64 (Bk.coal b), U.lst Kd.ro 3 (trisU (Bk.looks b))], SB.froz (List.map dg (triF (List.set (Bk.lots b) j { a := Min.min (6 : Int) (Tri.a t + (1 : Int)), b := Tri.b t, c := Tri.c t }))), SB.box [.int .i64 (Tri.a t), .int .i64 (Tri.b t), .int .i64 (Tri.c t)]]) (.cons rfl (.cons rfl (.cons rfl (.nil rfl)))) rfl rfl fun fr => ?_
          refine o_gD rfl rfl rfl rfl rfl ?_
          refine o_genA [(15, U.bool Bool.true), (119, U.bool (Decidable.decide ((0 : Int) = (0 : Int)))), (121, U.bool !Bool.true)] [] ([SB.box [U.lst Kd.ro 3 (trisU (Bk.lots b)), .int .i64 (Bk.tlo b), .int .i64 (Bk.thi b), .int .i64 (Bk.thick b), .int .i64 (Bk.crack b), .int .i64 (Bk.glo b), .int .i64 (Bk.ghi b), U.lst Kd.ro 2 (twosU (Bk.thins b)), .int .i64 (Bk.hot b), .int .i64 (Bk.least b), .int .i64 (Bk.clo b), .int .i64 (Bk.chi b), .int .i64 (Bk.coal b), U.lst Kd.ro 3 (trisU (Bk.looks b))], SB.box [.int .i64 m0, .int .i64 m1, .int .i64 m2], SB.box [U.sl 3 0 (List.length (Bk.lots b)) 3, .int .i64 (Bk.tlo b), .int .i64 (Bk.thi b), .int .i64 (Bk.thick b), .int .i64 (Bk.crack b), .int .i64 (Bk.glo b), .int .i64 (Bk.ghi b), U.lst Kd.ro 2 (twosU (Bk.thins b)), .int .i64 (Bk.hot b), .int .i64 (Bk.least b), .int .i64 (Bk.clo b), .int .i64 (Bk.chi b), .int .i64 (Bk.coal b), U.lst Kd.ro 3 (trisU (Bk.looks b))], SB.froz (List.map dg (triF (List.set (Bk.lots b) j { a := Min.min (6 : Int) (Tri.a t + (1 : Int)), b := Tri.b t, c := Tri.c t }))), SB.box [.int .i64 (Tri.a t), .int .i64 (Tri.b t), .int .i64 (Tri.c t)]]) (.cons rfl (.cons rfl (.cons rfl (.nil rfl)))) rfl rfl fun fr => ?_
          refine o_move rfl ?_
          refine o_gD rfl rfl rfl rfl rfl ?_
          refine o_move rfl ?_
          refine o_gD rfl rfl rfl rfl rfl ?_
          refine o_pickF rfl rfl rfl ?_
          refine o_pickT rfl rfl rfl ?_
          refine o_move rfl ?_
          refine o_gD rfl rfl rfl rfl rfl ?_
          refine o_call rfl (r8) (.lrefl _) ?_
          refine o_pickT rfl rfl rfl ?_
          refine o_assign rfl ?_
          refine o_nil ?_
          refine k_ret ?_
          refine ⟨.inr rfl, _, .cons _ _ _ _ (.tmp 6) .nil, ?_⟩
          exact .refl _
theorem u29 : Try.prog.underlying 29 = some (.slice 3) := by kernel_rfl
theorem u30 : Try.prog.underlying 30 = some (.array 3 3) := by kernel_rfl
theorem shp_three {cs : List U} (h : Shp Try.prog 30 cs) : ∃ a b c : Int, cs = [.int .i64 a, .int .i64 b, .int .i64 c] := by
  cases h with
  | array _ n e css hu hl hn =>
    rw [u30] at hu; cases hu
    obtain ⟨l, rfl⟩ := shpL_map (f := fun n : Int => [U.int .i64 n]) hl fun cs hcs => shp_int hcs
    rw [List.length_map] at hn
    match l, hn with
    | [a, b, c], _ => exact ⟨a, b, c, rfl⟩
  | int _ k n hu _ => rw [u30] at hu; cases hu
  | bool _ _ hu => rw [u30] at hu; cases hu
  | str _ _ hu => rw [u30] at hu; cases hu
  | slice _ _ _ hu => rw [u30] at hu; cases hu
  | struct _ _ _ hu => rw [u30] at hu; cases hu
theorem eu3 : ∀ cs, eU Try.prog 3 cs = cs.headD .junk := by
  intro cs; unfold eU; rw [u3]
theorem map_ints {F : List U → U} (he : ∀ cs, F cs = cs.headD .junk) (l : List Int) : (l.map fun n : Int => [U.int .i64 n]).map F = intsU l := by
  rw [List.map_map]
  exact List.map_congr_left fun q _ => he _
theorem shp_ints {cs : List U} (h : Shp Try.prog 29 cs) : ∃ l : List Int, cs = [.lst .ro 1 (intsU l)] := by
  obtain ⟨css, hl, rfl⟩ := shp_slice u29 h
  obtain ⟨l, rfl⟩ := shpL_map (f := fun n : Int => [.int .i64 n]) hl fun cs hcs => shp_int hcs
  refine ⟨l, ?_⟩
  rw [cl3, map_ints eu3]
theorem ret3_all {is : FuncId → Bool} {orc : Known} (hi : Off is) (r8 : RetP Try.prog is orc 8 [] (.bool true)) : ∀ us, ShpAs Try.prog [28, 29, 30] us → RetP Try.prog is orc 3 us (.bool true) := by
  intro us h
  cases h with
  | cons _ _ u us h1 h => cases h with
  | cons _ _ v us h2 h => cases h with
  | cons _ _ x us h3 h =>
  cases h
  obtain ⟨fs, hu⟩ := und_struct (P := Try.prog) (t := 28) 11 (by kernel_rfl)
  unfold ShpA at h1 h2 h3
  rw [hu] at h1
  rw [u29] at h2
  rw [u30] at h3
  obtain ⟨cs, rfl, h1⟩ := h1
  obtain ⟨es, rfl, h3⟩ := h3
  obtain ⟨b, rfl⟩ := shp_book h1
  obtain ⟨l, e⟩ := shp_ints h2
  cases e
  obtain ⟨c, d, e, rfl⟩ := shp_three h3
  exact ret3 hi b l c d e r8
end Go.Proofs.Ytniplfmjbjjocaa.forgeEasier
