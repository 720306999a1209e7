/- rasp's functions and the law's, by the logic of trees: what each gives back for all that it may be given. -/
import Derived.Test.YtdahbimllmapkaaVamRaspPlayed8
namespace Go.Proofs.Ytdahbimllmapkaa.raspPlayed
open Vam
set_option linter.unusedVariables false
set_option linter.unusedSimpArgs false
set_option linter.constructorNameAsVariable false
variable {is : FuncId → Bool} {orc : Known}
noncomputable def b67 : Code := (Try.f67.body).getD .skip
theorem body67 : bodyOf Try.prog 67 = some (34, b67, [.tmp 4]) := by kernel_rfl
theorem pure67 : pureFn Try.prog 67 = false := by kernel_rfl
noncomputable def b45 : Code := (Try.f45.body).getD .skip
theorem body45 : bodyOf Try.prog 45 = some (53, b45, [.tmp 4, .tmp 5]) := by kernel_rfl
theorem pure45 : pureFn Try.prog 45 = true := by kernel_rfl
noncomputable def b44 : Code := (Try.f44.body).getD .skip
theorem body44 : bodyOf Try.prog 44 = some (13, b44, [.tmp 4]) := by kernel_rfl
theorem pure44 : pureFn Try.prog 44 = true := by kernel_rfl
def hitsB (s : Shop) (mv : Int) (i : Nat) : Bool := match s.tools[i]? with
  | some t => inB t mv
  | none => false
def toolsL (s : Shop) (mv : Int) : List Int := lsB (hitsB s mv) s.tools.length
set_option maxHeartbeats 8000000 in
theorem wpc67 (hi : Off is) {s : Shop} (hk : SOk s) {L c wv mp kn fi ch : Nat} {X : List (U × U) → List SB} (h : Sr s true L c wv mp kn fi ch X) {B2 : List U} (hf2 : Bd L (.fn 82 [] B2)) (mv : Int) :
    WpC Try.prog is orc 67 [.agg (shopB s c wv kn fi ch B2), .int .i64 mv] (X []) fun u st' => u = .lst .ro 1 (intsU (toolsL s mv)) ∧ st' = X [] := by
  have hnt := hk.nt
  have hlen := h.len []
  have hbd : ∀ x ∈ X [], BdS (X []).length x := fun x hx => by rw [hlen]; exact h.bd [] (Memo.nil _ _) x hx
  have hT : ∀ x : SB, (X [] ++ [x]).take (X []).length = X [] := fun x => List.take_left
  refine wpc_cut body67 pure67 rfl rfl ?_
  refine k_seq (k_region ?_)
  refine o_box rfl rfl ?_
  refine o_assign rfl ?_
  refine o_nil ?_
  refine k_gen [(1, .int .i64 mv), (2, U.box (List.length (X [])) 0)] (X [] ++ [SB.box [U.lst Kd.ro 3 (trisU (Shop.tools s)), .int .i64 (Shop.flo s), .int .i64 (Shop.fhi s), U.lst Kd.ro 3 (trisU (Shop.keys s)), U.fn 82 [] [U.box fi 0, U.box kn 0, U.box c 0, U.box ch 0, U.box wv 0], U.fn 82 [] B2]]) (.cons rfl (.cons rfl (.nil rfl))) rfl fun fr => ?_
  refine k_seq (k_region ?_)
  refine o_assign rfl ?_
  refine o_nil ?_
  refine k_seq ?_
  refine k_seq (k_region ?_)
  refine o_faddr rfl rfl fld73_0 ?_
  refine o_faddr rfl rfl fld27_0 ?_
  refine o_load1 rfl rfl (at_new _ _) sh22 rfl ?_
  refine o_len rfl ty22 rfl (List.length_map _) ?_
  refine o_move rfl ?_
  refine o_nil ?_
  refine k_block ?_
  refine k_loop (fun kk st => ∃ (i : Nat), kk + i = s.tools.length ∧ st.st = X [] ++ [.box (shopB s c wv kn fi ch B2)] ∧ Holds st [(1, .int .i64 mv), (2, .box (X []).length 0), (5, accI (lsB (hitsB s mv) i)), (10, .int .i64 s.tools.length), (11, .int .i64 i)]) (fun kk st hI => ?_) s.tools.length _ ?_
  · obtain ⟨i, hki, hst, hs⟩ := hI
    have hle := ls_len (hitsB s mv) i
    have hin := fun h => ls_in (f := hitsB s mv) (n := i) h
    have hout := fun h => ls_out (f := hitsB s mv) (n := i) h
    generalize hR : lsB (hitsB s mv) i = R at hs hle hin hout
    refine k_gen _ _ hs hst fun fr => ?_
    cases R with
    | nil =>
      refine k_seq (k_region ?_)
      refine o_lss rfl rfl rfl ?_
      refine o_nil ?_
      refine k_seq ?_
      refine k_cond rfl (fun h12 => ?_) (fun h12 => ?_)
      · refine k_skip ?_
        refine k_seq ?_
        refine k_block ?_
        refine k_seq (k_region ?_)
        refine o_move rfl ?_
        refine o_assign rfl ?_
        refine o_nil ?_
        refine k_seq (k_region ?_)
        refine o_faddr rfl rfl fld73_0 ?_
        refine o_faddr rfl rfl fld27_0 ?_
        refine o_load1 rfl rfl (at_new _ _) sh22 rfl ?_
        refine o_move rfl ?_
        have hil : i < s.tools.length := by have := of_decide_eq_true h12; omega
        obtain ⟨t, hq⟩ : ∃ t, s.tools[i]? = some t := ⟨s.tools[i], List.getElem?_eq_getElem hil⟩
        have hh : hitsB s mv i = inB t mv := by unfold hitsB; rw [hq]
        refine o_idx (u := (t).u) rfl ty22 rfl rfl (Int.natCast_nonneg _) (by simp [hq]) cl52 ?_
        refine o_faddrR rfl rfl fld52_0 ?_
        refine o_loadRN rfl rfl sh24 rfl ?_
        refine o_move rfl ?_
        refine o_call rfl (ret64 hi ..) (.lrefl _) ?_
        refine o_nil ?_
        refine k_cond rfl (fun h22 => ?_) (fun h22 => ?_)
        · refine k_region ?_
          refine o_move rfl ?_
          refine o_move rfl ?_
          refine o_lit (es := [.int .i64 ↑i]) rfl ty38 ze3 cl3 rfl rfl rfl rfl rfl rfl rfl rfl ?_
          refine o_appendF rfl ap38_38 rfl rfl (by simp) (by simp) (by simp [flatU, cellsU, oneU]) (by simp) ?_
          refine o_assign rfl ?_
          refine o_nil ?_
          refine k_gen [(1, .int .i64 mv), (2, U.box (List.length (X [])) 0), (5, U.lst Kd.own 1 [.int .i64 ↑i]), (10, .int .i64 ↑(List.length (Shop.tools s))), (11, .int .i64 ↑i)] (X [] ++ [SB.box (shopB s c wv kn fi ch B2)]) (.cons rfl (.cons rfl (.cons rfl (.cons rfl (.cons rfl (.nil rfl)))))) rfl fun fr => ?_
          refine k_region ?_
          refine o_add rfl rfl rfl (by unfold I64; omega) ?_
          refine o_move rfl ?_
          refine o_nil ?_
          refine ⟨kk - 1, by omega, i + 1, by omega, rfl, .cons rfl (.cons rfl (.cons ?_ (.cons rfl (.cons rfl (.nil rfl)))))⟩
          rw [hin (by rw [hh]; exact h22)]; rfl
        · refine k_skip ?_
          refine k_region ?_
          refine o_add rfl rfl rfl (by unfold I64; omega) ?_
          refine o_move rfl ?_
          refine o_nil ?_
          refine ⟨kk - 1, by omega, i + 1, by omega, rfl, .cons rfl (.cons rfl (.cons ?_ (.cons rfl (.cons rfl (.nil rfl)))))⟩
          rw [hout (by rw [hh]; exact h22)]; rfl
      · refine k_exit ?_
        refine k_seq (k_region ?_)
        refine o_move rfl ?_
        refine o_move rfl ?_
        refine o_len rfl ty38 rfl rfl ?_
        refine o_move rfl ?_
        refine o_len rfl ty38 rfl rfl ?_
        refine o_slice0 rfl ty38 cl3 rfl (by simp) rfl rfl (Nat.le_refl _) ?_
        refine o_assign rfl ?_
        refine o_nil ?_
        refine k_ret ?_
        refine ⟨.inr rfl, _, .cons _ _ _ _ (.tmp 4) .nil, ?_⟩
        have hil : i = s.tools.length := by have := of_decide_eq_false h12; omega
        subst hil
        have huw : UW (.u (.lst .full 1 (List.take ([] : List Int).length (intsU [])))) (.u (.lst .ro 1 (intsU (toolsL s mv)))) := by
          unfold toolsL; rw [hR, List.take_of_length_le (by simp)]; exact .ro _ _ _
        refine ⟨.lst .ro 1 (intsU (toolsL s mv)), huw, (nb_ints _ _ _).bd _, ?_, ?_, ?_⟩
        · show (X []).length ≤ (X [] ++ [_]).length
          rw [List.length_append]; omega
        · exact fun x hx => hbd x ((congrArg (x ∈ ·) (hT (SB.box (shopB s c wv kn fi ch B2)))).mp hx)
        · exact ⟨rfl, hT (SB.box (shopB s c wv kn fi ch B2))⟩
    | cons y R =>
      refine k_seq (k_region ?_)
      refine o_lss rfl rfl rfl ?_
      refine o_nil ?_
      refine k_seq ?_
      refine k_cond rfl (fun h12 => ?_) (fun h12 => ?_)
      · refine k_skip ?_
        refine k_seq ?_
        refine k_block ?_
        refine k_seq (k_region ?_)
        refine o_move rfl ?_
        refine o_assign rfl ?_
        refine o_nil ?_
        refine k_seq (k_region ?_)
        refine o_faddr rfl rfl fld73_0 ?_
        refine o_faddr rfl rfl fld27_0 ?_
        refine o_load1 rfl rfl (at_new _ _) sh22 rfl ?_
        refine o_move rfl ?_
        have hil : i < s.tools.length := by have := of_decide_eq_true h12; omega
        obtain ⟨t, hq⟩ : ∃ t, s.tools[i]? = some t := ⟨s.tools[i], List.getElem?_eq_getElem hil⟩
        have hh : hitsB s mv i = inB t mv := by unfold hitsB; rw [hq]
        refine o_idx (u := (t).u) rfl ty22 rfl rfl (Int.natCast_nonneg _) (by simp [hq]) cl52 ?_
        refine o_faddrR rfl rfl fld52_0 ?_
        refine o_loadRN rfl rfl sh24 rfl ?_
        refine o_move rfl ?_
        refine o_call rfl (ret64 hi ..) (.lrefl _) ?_
        refine o_nil ?_
        refine k_cond rfl (fun h22 => ?_) (fun h22 => ?_)
        · refine k_region ?_
          refine o_move rfl ?_
          refine o_move rfl ?_
          refine o_lit (es := [.int .i64 ↑i]) rfl ty38 ze3 cl3 rfl rfl rfl rfl rfl rfl rfl rfl ?_
          refine o_appendS 5 rfl ap38_38 rfl rfl rfl (by simp) (by simp) (by simp [flatU, cellsU, oneU]) (by simp at hle ⊢; omega) ?_
          refine o_assign rfl ?_
          refine o_nil ?_
          refine k_gen [(1, .int .i64 mv), (2, U.box (List.length (X [])) 0), (5, U.lst Kd.own 1 (.int .i64 y :: List.append (List.map (fun n ↦ .int .i64 n) R) [.int .i64 ↑i])), (10, .int .i64 ↑(List.length (Shop.tools s))), (11, .int .i64 ↑i)] (X [] ++ [SB.box (shopB s c wv kn fi ch B2)]) (.cons rfl (.cons rfl (.cons rfl (.cons rfl (.cons rfl (.nil rfl)))))) rfl fun fr => ?_
          refine k_region ?_
          refine o_add rfl rfl rfl (by unfold I64; omega) ?_
          refine o_move rfl ?_
          refine o_nil ?_
          refine ⟨kk - 1, by omega, i + 1, by omega, rfl, .cons rfl (.cons rfl (.cons ?_ (.cons rfl (.cons rfl (.nil rfl)))))⟩
          rw [hin (by rw [hh]; exact h22), accI_snoc]; rfl
        · refine k_skip ?_
          refine k_region ?_
          refine o_add rfl rfl rfl (by unfold I64; omega) ?_
          refine o_move rfl ?_
          refine o_nil ?_
          refine ⟨kk - 1, by omega, i + 1, by omega, rfl, .cons rfl (.cons rfl (.cons ?_ (.cons rfl (.cons rfl (.nil rfl)))))⟩
          rw [hout (by rw [hh]; exact h22)]; rfl
      · refine k_exit ?_
        refine k_seq (k_region ?_)
        refine o_move rfl ?_
        refine o_move rfl ?_
        refine o_len rfl ty38 rfl (List.length_map _) ?_
        refine o_move rfl ?_
        refine o_len rfl ty38 rfl (List.length_map _) ?_
        refine o_slice0 rfl ty38 cl3 rfl (by simp) rfl rfl (by simp) ?_
        refine o_assign rfl ?_
        refine o_nil ?_
        refine k_ret ?_
        refine ⟨.inr rfl, _, .cons _ _ _ _ (.tmp 4) .nil, ?_⟩
        have hil : i = s.tools.length := by have := of_decide_eq_false h12; omega
        subst hil
        have huw : UW (.u (.lst .full 1 (List.take (y :: R).length (intsU (y :: R))))) (.u (.lst .ro 1 (intsU (toolsL s mv)))) := by
          unfold toolsL; rw [hR, List.take_of_length_le (by simp)]; exact .ro _ _ _
        refine ⟨.lst .ro 1 (intsU (toolsL s mv)), huw, (nb_ints _ _ _).bd _, ?_, ?_, ?_⟩
        · show (X []).length ≤ (X [] ++ [_]).length
          rw [List.length_append]; omega
        · exact fun x hx => hbd x ((congrArg (x ∈ ·) (hT (SB.box (shopB s c wv kn fi ch B2)))).mp hx)
        · exact ⟨rfl, hT (SB.box (shopB s c wv kn fi ch B2))⟩
  · exact ⟨0, by omega, rfl, .cons rfl (.cons rfl (.cons rfl (.cons rfl (.cons rfl (.nil rfl)))))⟩
set_option maxHeartbeats 4000000 in
theorem ret44 (hi : Off is) (l : List Int) (n : Int) (hl : l.length ≤ 4096) : RetP Try.prog is orc 44 [.lst .ro 1 (intsU l), .int .i64 n] (.lst .ro 1 (intsU (l ++ [n]))) := by
  refine ret_of body44 pure44 (hi 44 (by decide)) rfl rfl (dat_l2 (dat_ints 6 .ro (fun h => by cases h) 1 l) (.int _ _ _)) (.inl (dat_ints 6 .ro (fun h => by cases h) 1 _)) ?_
  refine k_seq (k_region ?_)
  refine o_assign rfl ?_
  refine o_nil ?_
  refine k_seq (k_region ?_)
  refine o_lit (es := []) rfl ty38 ze3 cl3 rfl rfl rfl rfl rfl rfl rfl rfl ?_
  refine o_move rfl ?_
  refine o_appendF rfl ap38_38 rfl rfl (by simp) (by simp) (by simp [flatU, cellsU, oneU]) (by simp; omega) ?_
  refine o_assign rfl ?_
  refine o_nil ?_
  refine k_seq (k_region ?_)
  refine o_move rfl ?_
  refine o_move rfl ?_
  refine o_lit (es := [.int .i64 n]) rfl ty38 ze3 cl3 rfl rfl rfl rfl rfl rfl rfl rfl ?_
  refine o_appendS 5 rfl ap38_38 rfl rfl rfl (by simp) (by simp) (by simp [flatU, cellsU, oneU]) (by simp; omega) ?_
  refine o_assign rfl ?_
  refine o_nil ?_
  refine k_ret ?_
  refine ⟨.inr rfl, _, .cons _ _ _ _ (.tmp 4) .nil, ?_⟩
  show UW (.u (.lst .own 1 (([] ++ intsU l) ++ [.int .i64 n]))) _
  rw [List.nil_append, show intsU (l ++ [n]) = intsU l ++ [.int .i64 n] from List.map_append ..]; exact .ro _ _ _
abbrev rowI (x : List Int) : U := .lst .ro 1 (intsU x)
def accL (l : List (List Int)) : U := match l with
  | [] => .lst .full 0 []
  | l => .lst .own 1 (l.map rowI)
theorem accL_snoc (x : List Int) (l : List (List Int)) : accL (l ++ [x]) = .lst .own 1 (l.map rowI ++ [rowI x]) := by
  cases l with
  | nil => rfl
  | cons y l => show U.lst .own 1 _ = _; rw [List.map_append]; rfl
def gapL (s : Shop) (h : List Int) (n : Nat) : List Int := toolsL s ((h[n + 1]?).getD 0 - (h[n]?).getD 0)
def toldL (s : Shop) (h : List Int) (n : Nat) : List (List Int) := (List.range n).map (gapL s h)
theorem told_succ (s : Shop) (h : List Int) (n : Nat) : toldL s h (n + 1) = toldL s h n ++ [gapL s h n] := by
  unfold toldL; rw [List.range_succ, List.map_append]; rfl
theorem told_len (s : Shop) (h : List Int) (n : Nat) : (toldL s h n).length = n := by unfold toldL; simp
theorem dat_rowsI (l : List (List Int)) : Dat 7 (.lst .ro 1 (l.map rowI)) := by
  refine .lst _ _ _ _ (fun h => by cases h) fun c hc => ?_
  obtain ⟨u, hu, hc⟩ := List.mem_flatMap.1 hc
  obtain ⟨x, _, rfl⟩ := List.mem_map.1 hu
  simp only [cellsU, List.mem_cons, List.not_mem_nil, or_false] at hc
  subst hc
  exact dat_ints 4 .ro (fun h => by cases h) 1 _
set_option maxHeartbeats 8000000 in
theorem ret45 (hi : Off is) {s : Shop} (hk : SOk s) {h : List Int} (hh : heardOk h = true) (hg : ∀ n, n + 1 < h.length → gapL s h n ≠ []) : RetP Try.prog is orc 45 [s.u, .lst .ro 1 (intsU h)] (.tup [.lst .ro 1 ((toldL s h (h.length - 1)).map rowI), .int .i64 0]) := by
  have q66 := ret66 (orc := orc) (hi 66 (by decide)) hi h
  rw [hh] at q66
  unfold heardOk at hh
  simp only [Bool.and_eq_true, decide_eq_true_eq] at hh
  obtain ⟨⟨hl1, hl2⟩, hof⟩ := hh
  have hob : ∀ (i : Nat) (x : Int), h[i]? = some x → -60 ≤ x ∧ x ≤ 60 := fun i x hx => by
    have := List.all_eq_true.1 hof x (List.mem_of_getElem? hx)
    simpa using this
  refine ret_of body45 pure45 (hi 45 (by decide)) rfl rfl (dat_l2 (dat_shop s 5) (dat_ints 6 .ro (fun h => by cases h) 1 h)) (.inr ⟨_, rfl, dat_l2 (dat_rowsI _) (.int _ _ _)⟩) ?_
  refine k_seq (k_region ?_)
  refine o_box rfl rfl ?_
  refine o_assign rfl ?_
  refine o_assign rfl ?_
  refine o_nil ?_
  refine k_gen [(1, U.lst Kd.ro 1 (intsU h)), (2, U.box 0 0)] ([SB.box [U.lst Kd.ro 3 (trisU (Shop.tools s)), .int .i64 (Shop.flo s), .int .i64 (Shop.fhi s), U.lst Kd.ro 3 (trisU (Shop.keys s))]]) (.cons rfl (.cons rfl (.nil rfl))) rfl fun fr => ?_
  refine k_seq ?_
  refine k_draw [.read true, .plain, .read false, .quiet, .plain, .plain, .plain, .pre, .plain, .plain] (by kernel_rfl) (by kernel_rfl) (by kernel_rfl) ?_
  refine d_load rfl (o_loadN rfl rfl rfl sh27 rfl (o_nil rfl)) ?_
  refine d_plain (o_move rfl (o_nil rfl)) ?_
  refine d_callR rfl (q66) (.bool _) (.lrefl _) ?_
  refine askD hi hk rfl rfl (.lrefl _) ?_
  refine d_plain (o_move rfl (o_nil rfl)) ?_
  refine d_plain (o_extract rfl rfl rfl (o_nil rfl)) ?_
  refine d_plain (o_extract rfl rfl rfl (o_nil rfl)) ?_
  refine d_pre rfl ze73 ?_
  refine d_plain (o_storeN rfl rfl sh73 rfl rfl rfl rfl rfl (o_nil rfl)) ?_
  refine d_plain (o_assign rfl (o_nil rfl)) ?_
  refine d_nil ?_
  refine k_gen [(1, U.lst Kd.ro 1 (intsU h)), (6, U.box 19 0), (7, .int .i64 0)] ([SB.box (Shop.cs s), SB.box (Shop.cs s), SB.box (shopC s 7 13), SB.box (Shop.cs s), SB.box (shopC s (3 + 4) (3 + 10)), SB.box (shopC s (3 + 4) (3 + 10)), SB.box waysC, SB.box (Shop.cs6 s), SB.box (wayC Bool.true), SB.map [], SB.box [U.mp 9], SB.box [U.fn 75 [U.agg (Shop.cs6 s)] []], SB.box [fn82 (3 + 4)], SB.box (Shop.cs6 s), SB.box (wayC Bool.false), SB.map [], SB.box [U.mp 15], SB.box [U.fn 75 [U.agg (Shop.cs6 s)] []], SB.box [fn82 (3 + 10)], SB.box [U.lst Kd.ro 3 (trisU (Shop.tools s)), .int .i64 (Shop.flo s), .int .i64 (Shop.fhi s), U.lst Kd.ro 3 (trisU (Shop.keys s)), U.fn 82 [] [U.box 11 0, U.box 10 0, U.box 7 0, U.box 12 0, U.box 8 0], U.fn 82 [] [U.box 17 0, U.box 16 0, U.box 13 0, U.box 18 0, U.box 14 0]]]) (.cons rfl (.cons rfl (.cons rfl (.nil rfl)))) rfl fun fr => ?_
  refine k_seq ?_
  refine k_seq (k_region ?_)
  refine o_move rfl ?_
  refine o_neq rfl rfl rfl ?_
  refine o_nil ?_
  refine k_cF rfl rfl ?_
  refine k_skip ?_
  refine k_gen [(1, .lst .ro 1 (intsU h)), (6, .box 19 0)] (nxX s []) (.cons rfl (.cons rfl (.nil rfl))) rfl fun fr => ?_
  refine k_seq (k_region ?_)
  refine o_assign rfl ?_
  refine o_nil ?_
  refine k_seq ?_
  refine k_seq (k_region ?_)
  refine o_move rfl ?_
  refine o_len rfl ty38 rfl (List.length_map _) ?_
  refine o_sub rfl rfl rfl (by unfold I64; omega) ?_
  refine o_move rfl ?_
  refine o_nil ?_
  refine k_block ?_
  refine k_loop (fun kk st => ∃ (i : Nat), kk + i = h.length - 1 ∧ st.st = nxX s [] ∧ Holds st [(1, .lst .ro 1 (intsU h)), (6, .box 19 0), (8, accL (toldL s h i)), (23, .int .i64 ((h.length : Int) - 1)), (24, .int .i64 i)]) (fun kk st hI => ?_) (h.length - 1) _ ?_
  · obtain ⟨i, hki, hst, hs⟩ := hI
    have hsucc := told_succ s h i
    have hrl := told_len s h i
    generalize hR : toldL s h i = R at hs hsucc hrl
    refine k_gen _ _ hs hst fun fr => ?_
    have w67 := fun mv => wpc67 (orc := orc) hi hk (sr_nx s) (B2 := [.box 17 0, .box 16 0, .box 13 0, .box 18 0, .box 14 0]) (bd_82 (k := 20) (n := 13) (by decide)) mv
    cases R with
    | nil =>
      refine k_seq (k_region ?_)
      refine o_lss rfl rfl rfl ?_
      refine o_nil ?_
      refine k_seq ?_
      refine k_cond rfl (fun h25 => ?_) (fun h25 => ?_)
      · refine k_skip ?_
        refine k_seq ?_
        refine k_block ?_
        refine k_seq (k_region ?_)
        refine o_move rfl ?_
        refine o_assign rfl ?_
        refine o_nil ?_
        refine k_seq ?_
        refine k_draw [.read true, .plain, .plain, .plain, .plain, .read true, .plain, .plain, .plain, .read true, .plain, .plain, .plain] (by kernel_rfl) (by kernel_rfl) (by kernel_rfl) ?_
        refine d_load rfl (o_loadN rfl rfl rfl sh73 rfl (o_nil rfl)) ?_
        refine d_plain (o_move rfl (o_nil rfl)) ?_
        refine d_plain (o_move rfl (o_nil rfl)) ?_
        refine d_plain (o_add rfl rfl rfl (by unfold I64; omega) (o_nil rfl)) ?_
        have hil := of_decide_eq_true h25
        obtain ⟨x, hx⟩ : ∃ x, h[i]? = some x := ⟨h[i], List.getElem?_eq_getElem (by omega)⟩
        obtain ⟨y, hy⟩ : ∃ y, h[i + 1]? = some y := ⟨h[i + 1], List.getElem?_eq_getElem (by omega)⟩
        have bx := hob i x hx
        have bY := hob (i + 1) y hy
        have hgap : toolsL s (y - x) = gapL s h i := by unfold gapL; rw [hx, hy]; rfl
        have hgn := hg i (by omega)
        have k41 : decide (((toolsL s (y - x)).length : Int) = 0) = false := decide_eq_false fun e => by
          rw [hgap] at e; exact hgn (List.eq_nil_of_length_eq_zero (by omega))
        refine d_plain (o_idx (u := .int .i64 y) rfl ty38 rfl rfl (by omega) (by show (intsU h)[i + 1]? = _; rw [List.getElem?_map, hy]; rfl) cl3 (o_nil rfl)) ?_
        refine d_load rfl (o_loadR1 rfl rfl sh3 rfl (o_nil rfl)) ?_
        refine d_plain (o_move rfl (o_nil rfl)) ?_
        refine d_plain (o_move rfl (o_nil rfl)) ?_
        refine d_plain (o_idx (u := .int .i64 (x)) rfl ty38 rfl rfl (Int.natCast_nonneg _) (by simp [hx]) cl3 (o_nil rfl)) ?_
        refine d_load rfl (o_loadR1 rfl rfl sh3 rfl (o_nil rfl)) ?_
        refine d_plain (o_sub rfl rfl rfl (by unfold I64; omega) (o_nil rfl)) ?_
        refine d_plain (o_callW rfl (w67 (y - x)) (.lrefl _) (fun u st1 hM => by obtain ⟨rfl, rfl⟩ := hM; exact o_nil rfl)) ?_
        refine d_plain (o_assign rfl (o_nil rfl)) ?_
        refine d_nil ?_
        refine k_seq ?_
        refine k_seq (k_region ?_)
        refine o_move rfl ?_
        refine o_len rfl ty38 rfl (List.length_map _) ?_
        refine o_eql rfl rfl rfl ?_
        refine o_nil ?_
        refine k_cF rfl (by assumption) ?_
        refine k_skip ?_
        refine k_region ?_
        refine o_move rfl ?_
        refine o_move rfl ?_
        refine o_lit (es := [U.lst Kd.ro 1 (intsU (toolsL s (y - x)))]) rfl ty68 ze38 cl38 rfl rfl rfl rfl rfl rfl rfl rfl ?_
        refine o_appendF rfl ap68_68 rfl rfl (by simp) (by simp) (by simp [flatU, cellsU, oneU]) (by simp) ?_
        refine o_assign rfl ?_
        refine o_nil ?_
        refine k_region ?_
        refine o_add rfl rfl rfl (by unfold I64; omega) ?_
        refine o_move rfl ?_
        refine o_nil ?_
        refine ⟨kk - 1, by omega, i + 1, by omega, rfl, .cons rfl (.cons rfl (.cons ?_ (.cons rfl (.cons rfl (.nil rfl)))))⟩
        rw [hsucc, accL_snoc, ← hgap]; rfl
      · refine k_exit ?_
        refine k_seq (k_region ?_)
        refine o_move rfl ?_
        refine o_move rfl ?_
        refine o_len rfl ty68 rfl rfl ?_
        refine o_move rfl ?_
        refine o_len rfl ty68 rfl rfl ?_
        refine o_slice0 rfl ty68 cl38 rfl (by simp) rfl rfl (Nat.le_refl _) ?_
        refine o_assign rfl ?_
        refine o_assign rfl ?_
        refine o_nil ?_
        refine k_ret ?_
        refine ⟨.inr rfl, _, .cons _ _ _ _ (.tmp 4) (.cons _ _ _ _ (.tmp 5) .nil), ?_⟩
        have hil := of_decide_eq_false h25
        have hi3 : i = h.length - 1 := by omega
        have hR2 : toldL s h (h.length - 1) = ([] : List (List Int)) := by rw [← hi3]; exact hR
        rw [hR2]
        show UW (.u (.tup [.lst .full 1 (List.take (([] : List (List Int))).length ((([] : List (List Int))).map rowI)), .int .i64 0])) _
        rw [List.take_of_length_le (by simp)]
        exact .tup _ _ (.lcons _ _ _ _ (.ro _ _ _) (.lrefl _))
    | cons z R =>
      refine k_seq (k_region ?_)
      refine o_lss rfl rfl rfl ?_
      refine o_nil ?_
      refine k_seq ?_
      refine k_cond rfl (fun h25 => ?_) (fun h25 => ?_)
      · refine k_skip ?_
        refine k_seq ?_
        refine k_block ?_
        refine k_seq (k_region ?_)
        refine o_move rfl ?_
        refine o_assign rfl ?_
        refine o_nil ?_
        refine k_seq ?_
        refine k_draw [.read true, .plain, .plain, .plain, .plain, .read true, .plain, .plain, .plain, .read true, .plain, .plain, .plain] (by kernel_rfl) (by kernel_rfl) (by kernel_rfl) ?_
        refine d_load rfl (o_loadN rfl rfl rfl sh73 rfl (o_nil rfl)) ?_
        refine d_plain (o_move rfl (o_nil rfl)) ?_
        refine d_plain (o_move rfl (o_nil rfl)) ?_
        refine d_plain (o_add rfl rfl rfl (by unfold I64; omega) (o_nil rfl)) ?_
        have hil := of_decide_eq_true h25
        obtain ⟨x, hx⟩ : ∃ x, h[i]? = some x := ⟨h[i], List.getElem?_eq_getElem (by omega)⟩
        obtain ⟨y, hy⟩ : ∃ y, h[i + 1]? = some y := ⟨h[i + 1], List.getElem?_eq_getElem (by omega)⟩
        have bx := hob i x hx
        have bY := hob (i + 1) y hy
        have hgap : toolsL s (y - x) = gapL s h i := by unfold gapL; rw [hx, hy]; rfl
        have hgn := hg i (by omega)
        have k41 : decide (((toolsL s (y - x)).length : Int) = 0) = false := decide_eq_false fun e => by
          rw [hgap] at e; exact hgn (List.eq_nil_of_length_eq_zero (by omega))
        refine d_plain (o_idx (u := .int .i64 y) rfl ty38 rfl rfl (by omega) (by show (intsU h)[i + 1]? = _; rw [List.getElem?_map, hy]; rfl) cl3 (o_nil rfl)) ?_
        refine d_load rfl (o_loadR1 rfl rfl sh3 rfl (o_nil rfl)) ?_
        refine d_plain (o_move rfl (o_nil rfl)) ?_
        refine d_plain (o_move rfl (o_nil rfl)) ?_
        refine d_plain (o_idx (u := .int .i64 (x)) rfl ty38 rfl rfl (Int.natCast_nonneg _) (by simp [hx]) cl3 (o_nil rfl)) ?_
        refine d_load rfl (o_loadR1 rfl rfl sh3 rfl (o_nil rfl)) ?_
        refine d_plain (o_sub rfl rfl rfl (by unfold I64; omega) (o_nil rfl)) ?_
        refine d_plain (o_callW rfl (w67 (y - x)) (.lrefl _) (fun u st1 hM => by obtain ⟨rfl, rfl⟩ := hM; exact o_nil rfl)) ?_
        refine d_plain (o_assign rfl (o_nil rfl)) ?_
        refine d_nil ?_
        refine k_seq ?_
        refine k_seq (k_region ?_)
        refine o_move rfl ?_
        refine o_len rfl ty38 rfl (List.length_map _) ?_
        refine o_eql rfl rfl rfl ?_
        refine o_nil ?_
        refine k_cF rfl (by assumption) ?_
        refine k_skip ?_
        refine k_region ?_
        refine o_move rfl ?_
        refine o_move rfl ?_
        refine o_lit (es := [U.lst Kd.ro 1 (intsU (toolsL s (y - x)))]) rfl ty68 ze38 cl38 rfl rfl rfl rfl rfl rfl rfl rfl ?_
        refine o_appendS 8 rfl ap68_68 rfl rfl rfl (by simp) (by simp) (by simp [flatU, cellsU, oneU]) (by simp at hrl ⊢; omega) ?_
        refine o_assign rfl ?_
        refine o_nil ?_
        refine k_region ?_
        refine o_add rfl rfl rfl (by unfold I64; omega) ?_
        refine o_move rfl ?_
        refine o_nil ?_
        refine ⟨kk - 1, by omega, i + 1, by omega, rfl, .cons rfl (.cons rfl (.cons ?_ (.cons rfl (.cons rfl (.nil rfl)))))⟩
        rw [hsucc, accL_snoc, ← hgap]; rfl
      · refine k_exit ?_
        refine k_seq (k_region ?_)
        refine o_move rfl ?_
        refine o_move rfl ?_
        refine o_len rfl ty68 rfl (List.length_map _) ?_
        refine o_move rfl ?_
        refine o_len rfl ty68 rfl (List.length_map _) ?_
        refine o_slice0 rfl ty68 cl38 rfl (by simp) rfl rfl (by simp) ?_
        refine o_assign rfl ?_
        refine o_assign rfl ?_
        refine o_nil ?_
        refine k_ret ?_
        refine ⟨.inr rfl, _, .cons _ _ _ _ (.tmp 4) (.cons _ _ _ _ (.tmp 5) .nil), ?_⟩
        have hil := of_decide_eq_false h25
        have hi3 : i = h.length - 1 := by omega
        have hR2 : toldL s h (h.length - 1) = z :: R := by rw [← hi3]; exact hR
        rw [hR2]
        show UW (.u (.tup [.lst .full 1 (List.take (z :: R).length ((z :: R).map rowI)), .int .i64 0])) _
        rw [List.take_of_length_le (by simp)]
        exact .tup _ _ (.lcons _ _ _ _ (.ro _ _ _) (.lrefl _))
  · exact ⟨0, by omega, rfl, .cons rfl (.cons rfl (.cons rfl (.cons rfl (.cons rfl (.nil rfl)))))⟩
noncomputable def b13 : Code := (Try.f13.body).getD .skip
theorem body13 : bodyOf Try.prog 13 = some (264, b13, [.tmp 6]) := by kernel_rfl
theorem pure13 : pureFn Try.prog 13 = true := by kernel_rfl
theorem way_less {s : Shop} (hk : SOk s) {off metal : Int} {n : Nat} (h : OnWay s off metal n) (hf : fineB s off = false) : ∃ (j : Nat) (t : Tri), (cho s true off metal).1 = j ∧ s.tools[j]? = some t ∧ ∀ m, t.a ≤ m → m ≤ t.b → OnWay s (off + m) (metal - t.c) (n + 1) ∧ (cho s true (off + m) (metal - t.c)).2 + 1 ≤ (cho s true off metal).2 := by
  obtain ⟨ho, h0, hn, h31⟩ := h
  obtain ⟨j, t, hq, hc, hsp, _, _⟩ := cho_tool hk h0 hf h31
  refine ⟨j, t, by rw [hc], hq, fun m h1 h2 => ?_⟩
  obtain ⟨a1, a2, a3, a4⟩ := after_ok hk (List.mem_of_getElem? hq) hsp h1 h2
  have hb := hk.tools t (List.mem_of_getElem? hq)
  exact ⟨⟨a3, by omega, by omega, a2⟩, by rw [hc]; show _ ≤ hitT s off metal t + 1; omega⟩
structure Went (s : Shop) (o0 m0 : Int) (p mv hd : List Int) (o m : Int) : Prop where
  way : OnWay s o m p.length
  few : (p.length : Int) + (cho s true o m).2 ≤ (cho s true o0 m0).2
  lmv : mv.length = p.length
  lhd : hd.length = p.length + 1
  run : ∀ r, playR s (mv ++ r) o0 m0 = preO p (playR s r o m)
  less : 0 < p.length → playR s (mv.take (p.length - 1)) o0 m0 = none
  last : hd[p.length]? = some o
  offs : ∀ x ∈ hd, -60 ≤ x ∧ x ≤ 60
  tool : ∀ (i : Nat) (x : Int), p[i]? = some x → x ∈ gapL s hd i
theorem went_start {s : Shop} {o m : Int} (h : OnWay s o m 0) : Went s o m [] [] [o] o m := by
  have hb : -60 ≤ o ∧ o ≤ 60 := by have := h.1; unfold offB at this; simpa using this
  refine ⟨h, by show (0 : Int) + _ ≤ _; omega, rfl, rfl, fun r => (preO_nil _).symm, fun h => absurd h (Nat.lt_irrefl 0), rfl, fun x hx => ?_, fun i x hx => by cases hx⟩
  rw [List.mem_singleton] at hx; subst hx; exact hb
theorem tools_in {s : Shop} {j : Nat} {t : Tri} {mv : Int} (hq : s.tools[j]? = some t) (h : t.a ≤ mv ∧ mv ≤ t.b) : (j : Int) ∈ toolsL s mv := by
  unfold toolsL lsB
  have hj := (List.getElem?_eq_some_iff.1 hq).1
  refine List.mem_map.2 ⟨j, List.mem_filter.2 ⟨List.mem_range.2 hj, ?_⟩, rfl⟩
  unfold hitsB; rw [hq]
  show (decide _ && decide _) = true
  rw [decide_eq_true h.1, decide_eq_true h.2]; rfl
theorem went_next {s : Shop} (hk : SOk s) {o0 m0 o m : Int} {p mv hd : List Int} (h : Went s o0 m0 p mv hd o m) (hf : fineB s o = false) {j : Nat} {t : Tri} (hj : (cho s true o m).1 = j) (hq : s.tools[j]? = some t) {d : Int} (hd1 : t.a ≤ d) (hd2 : d ≤ t.b) (hless : OnWay s (o + d) (m - t.c) (p.length + 1) ∧ (cho s true (o + d) (m - t.c)).2 + 1 ≤ (cho s true o m).2) :
    Went s o0 m0 (p ++ [(j : Int)]) (mv ++ [d]) (hd ++ [o + d]) (o + d) (m - t.c) := by
  obtain ⟨w1, w2⟩ := hless
  have hl : (p ++ [(j : Int)]).length = p.length + 1 := by rw [List.length_append]; rfl
  have hstep : ∀ r, playR s (d :: r) o m = (playR s r (o + d) (m - t.c)).map fun x : List Int × Int => ((j : Int) :: x.1, x.2) := fun r => by
    show (if fineB s o = true then none else match s.tools[(cho s true o m).1.toNat]? with | some t => if t.a ≤ d ∧ d ≤ t.b then (playR s r (o + d) (m - t.c)).map fun x : List Int × Int => ((cho s true o m).1 :: x.1, x.2) else none | none => none) = _
    rw [if_neg (by rw [hf]; decide), hj]
    show (match s.tools[((j : Int)).toNat]? with | some t => if t.a ≤ d ∧ d ≤ t.b then (playR s r (o + d) (m - t.c)).map fun x : List Int × Int => ((j : Int) :: x.1, x.2) else none | none => none) = _
    rw [show ((j : Int)).toNat = j from rfl, hq]
    exact if_pos ⟨hd1, hd2⟩
  refine ⟨by rw [hl]; exact w1, by rw [hl]; have := h.few; omega, ?_, ?_, fun r => ?_, fun _ => ?_, ?_, fun x hx => ?_, fun i x hx => ?_⟩
  · rw [hl, List.length_append, h.lmv]; rfl
  · rw [hl, List.length_append, h.lhd]; rfl
  · rw [List.append_assoc, h.run]
    show preO p (playR s (d :: r) o m) = _
    rw [hstep]; exact preO_cons _ _ _
  · rw [hl, Nat.add_sub_cancel, ← h.lmv, List.take_left]
    have := h.run []
    rw [List.append_nil] at this
    rw [this]
    unfold playR; rw [if_neg (by rw [hf]; decide)]; rfl
  · rw [hl, ← h.lhd, List.getElem?_append_right (Nat.le_refl _), Nat.sub_self]; rfl
  · rcases List.mem_append.1 hx with hx | hx
    · exact h.offs x hx
    · rw [List.mem_singleton] at hx; subst hx
      have := w1.1; unfold offB at this; simpa using this
  · by_cases e : i < p.length
    · rw [List.getElem?_append_left e] at hx
      have := h.tool i x hx
      unfold gapL at this ⊢
      rw [List.getElem?_append_left (by rw [h.lhd]; omega), List.getElem?_append_left (by rw [h.lhd]; omega)]; exact this
    · have hlt := (List.getElem?_eq_some_iff.1 hx).1
      rw [hl] at hlt
      have ei : i = p.length := by omega
      subst ei
      rw [List.getElem?_append_right (Nat.le_refl _), Nat.sub_self] at hx
      cases hx
      unfold gapL
      rw [← h.lhd, List.getElem?_append_right (Nat.le_refl _), Nat.sub_self, List.getElem?_append_left (by rw [h.lhd]; omega), h.last]
      show (j : Int) ∈ toolsL s (o + d - o)
      rw [show o + d - o = d by omega]
      exact tools_in hq ⟨hd1, hd2⟩
theorem went_heard {s : Shop} {o0 m0 o m : Int} {p mv hd : List Int} (h : Went s o0 m0 p mv hd o m) : heardOk hd = true := by
  have := h.way.2.1
  have := h.way.2.2.1
  unfold heardOk offs
  rw [decide_eq_true (by rw [h.lhd]; omega), decide_eq_true (by rw [h.lhd]; omega)]
  show hd.all _ = true
  rw [List.all_eq_true]
  intro x hx
  have := h.offs x hx
  rw [decide_eq_true this.1, decide_eq_true this.2]; rfl
theorem went_gaps {s : Shop} {o0 m0 o m : Int} {p mv hd : List Int} (h : Went s o0 m0 p mv hd o m) (n : Nat) (hn : n + 1 < hd.length) : gapL s hd n ≠ [] := by
  rw [h.lhd] at hn
  have := h.tool n p[n] (List.getElem?_eq_getElem (by omega))
  intro e; rw [e] at this; cases this
theorem gr_tools (s : Shop) (mv : Int) : grB (-1) s.tools.length (toolsL s mv) = true := by
  unfold toolsL lsB
  rw [List.range_eq_range']
  refine gr_range _ _ (fun i h => ?_) _ 0 (-1) (by decide)
  unfold hitsB at h
  cases e : s.tools[i]? with
  | none => rw [e] at h; cases h
  | some k => have := (List.getElem?_eq_some_iff.1 e).1; omega
def accH (l : List Int) : U := match l with
  | [] => .junk
  | [x] => .lst .full 1 [.int .i64 x]
  | x :: y :: r => .lst .own 1 (intsU (x :: y :: r))
set_option maxHeartbeats 4000000 in
theorem ret13n (hi : Off is) {s : Shop} (hv : checkR s.tools s.keys s.flo s.fhi ≠ 0) (a b : Int) (bs : List Int) (r20 : RetP Try.prog is orc 20 [] (.bool true)) : RetP Try.prog is orc 13 [s.u, .agg [.int .i64 a, .int .i64 b], .lst .ro 1 (intsU bs)] (.bool true) := by
  refine ret_of body13 pure13 (hi 13 (by decide)) rfl rfl (dat_l3 (dat_shop s 5) (dat_span _ _ _) (dat_ints 6 .ro (fun h => by cases h) 1 bs)) (.inl (.bool _ _)) ?_
  refine k_seq (k_region ?_)
  refine o_box rfl rfl ?_
  refine o_box rfl rfl ?_
  refine o_assign rfl ?_
  refine o_nil ?_
  refine k_gen [(2, U.lst Kd.ro 1 (intsU bs)), (3, U.box 0 0), (4, U.box 1 0)] ([SB.box [U.lst Kd.ro 3 (trisU (Shop.tools s)), .int .i64 (Shop.flo s), .int .i64 (Shop.fhi s), U.lst Kd.ro 3 (trisU (Shop.keys s))], SB.box [.int .i64 a, .int .i64 b]]) (.cons rfl (.cons rfl (.cons rfl (.nil rfl)))) rfl fun fr => ?_
  refine k_seq ?_
  refine k_seq (k_region ?_)
  refine o_loadN rfl rfl rfl sh27 rfl ?_
  refine o_call rfl (ret32n hi hv) (.lrefl _) ?_
  refine o_not rfl rfl ?_
  refine o_move rfl ?_
  refine o_gS rfl rfl rfl rfl rfl ?_
  refine o_gS rfl rfl rfl rfl rfl ?_
  refine o_gS rfl rfl rfl rfl rfl ?_
  refine o_gS rfl rfl rfl rfl rfl ?_
  refine o_pickT rfl rfl rfl ?_
  refine o_nil ?_
  refine k_cT rfl rfl ?_
  refine k_seq (k_region ?_)
  refine o_call rfl (r20) (.lrefl _) ?_
  refine o_assign rfl ?_
  refine o_nil ?_
  refine k_ret ?_
  refine ⟨.inr rfl, _, .cons _ _ _ _ (.tmp 6) .nil, ?_⟩
  exact .refl _
set_option maxHeartbeats 4000000 in
theorem ret13k (hi : Off is) {s : Shop} (hk : SOk s) (hn : s.keys.length = 0) (a b : Int) (bs : List Int) (r20 : RetP Try.prog is orc 20 [] (.bool true)) : RetP Try.prog is orc 13 [s.u, .agg [.int .i64 a, .int .i64 b], .lst .ro 1 (intsU bs)] (.bool true) := by
  refine ret_of body13 pure13 (hi 13 (by decide)) rfl rfl (dat_l3 (dat_shop s 5) (dat_span _ _ _) (dat_ints 6 .ro (fun h => by cases h) 1 bs)) (.inl (.bool _ _)) ?_
  refine k_seq (k_region ?_)
  refine o_box rfl rfl ?_
  refine o_box rfl rfl ?_
  refine o_assign rfl ?_
  refine o_nil ?_
  refine k_gen [(2, U.lst Kd.ro 1 (intsU bs)), (3, U.box 0 0), (4, U.box 1 0)] ([SB.box [U.lst Kd.ro 3 (trisU (Shop.tools s)), .int .i64 (Shop.flo s), .int .i64 (Shop.fhi s), U.lst Kd.ro 3 (trisU (Shop.keys s))], SB.box [.int .i64 a, .int .i64 b]]) (.cons rfl (.cons rfl (.cons rfl (.nil rfl)))) rfl fun fr => ?_
  refine k_seq ?_
  refine k_seq (k_region ?_)
  refine o_loadN rfl rfl rfl sh27 rfl ?_
  refine o_call rfl (ret32 hi hk) (.lrefl _) ?_
  refine o_not rfl rfl ?_
  refine o_move rfl ?_
  refine o_gD rfl rfl rfl rfl rfl ?_
  refine o_faddr rfl rfl fld27_2 ?_
  refine o_gD rfl rfl rfl rfl rfl ?_
  refine o_load1 rfl rfl rfl sh25 rfl ?_
  refine o_gD rfl rfl rfl rfl rfl ?_
  refine o_len rfl ty25 rfl (List.length_map _) ?_
  refine o_gD rfl rfl rfl rfl rfl ?_
  refine o_eql rfl rfl rfl ?_
  refine o_pickF rfl rfl rfl ?_
  refine o_nil ?_
  refine k_cT rfl (decide_eq_true (by omega)) ?_
  refine k_seq (k_region ?_)
  refine o_call rfl (r20) (.lrefl _) ?_
  refine o_assign rfl ?_
  refine o_nil ?_
  refine k_ret ?_
  refine ⟨.inr rfl, _, .cons _ _ _ _ (.tmp 6) .nil, ?_⟩
  exact .refl _
set_option maxHeartbeats 8000000 in
theorem ret13a (hi : Off is) {s : Shop} (hk : SOk s) (a b : Int) {i : Nat} {q : Tri} (hi0 : a % (s.keys.length : Int) = i) (hq : s.keys[i]? = some q) (bs : List Int) (r20 : RetP Try.prog is orc 20 [] (.bool true)) : RetP Try.prog is orc 13 [s.u, .agg [.int .i64 a, .int .i64 b], .lst .ro 1 (intsU bs)] (.bool true) := by
  have hil := (List.getElem?_eq_some_iff.1 hq).1
  have hqb := hk.keys q (List.mem_of_getElem? hq)
  have hnk := hk.nk
  have hnt := hk.nt
  have q40 := ret40 (orc := orc) hi a (s.keys.length : Int) (by omega) (by omega)
  rw [hi0] at q40
  have q36 := ret36 (orc := orc) hi q.a q.b b (by omega)
  have hdr := draw_b (a := q.a) (b := q.b) b hqb.2.1
  generalize drawI q.a q.b b = off at q36 hdr
  have ho : offB off = true := by unfold offB; simp; omega
  have hin : inB q off = true := by unfold inB; simp; omega
  have q30 := fun ms => ret30 (orc := orc) hi hk hq hin ms
  have q21 := ret21 (orc := orc) hi hk hq
  refine ret_of body13 pure13 (hi 13 (by decide)) rfl rfl (dat_l3 (dat_shop s 5) (dat_span _ _ _) (dat_ints 6 .ro (fun h => by cases h) 1 bs)) (.inl (.bool _ _)) ?_
  refine k_seq (k_region ?_)
  refine o_box rfl rfl ?_
  refine o_box rfl rfl ?_
  refine o_assign rfl ?_
  refine o_nil ?_
  refine k_gen [(2, U.lst Kd.ro 1 (intsU bs)), (3, U.box 0 0), (4, U.box 1 0)] ([SB.box [U.lst Kd.ro 3 (trisU (Shop.tools s)), .int .i64 (Shop.flo s), .int .i64 (Shop.fhi s), U.lst Kd.ro 3 (trisU (Shop.keys s))], SB.box [.int .i64 a, .int .i64 b]]) (.cons rfl (.cons rfl (.cons rfl (.nil rfl)))) rfl fun fr => ?_
  refine k_seq ?_
  refine k_seq (k_region ?_)
  refine o_loadN rfl rfl rfl sh27 rfl ?_
  refine o_call rfl (ret32 hi hk) (.lrefl _) ?_
  refine o_not rfl rfl ?_
  refine o_move rfl ?_
  refine o_gD rfl rfl rfl rfl rfl ?_
  refine o_faddr rfl rfl fld27_2 ?_
  refine o_gD rfl rfl rfl rfl rfl ?_
  refine o_load1 rfl rfl rfl sh25 rfl ?_
  refine o_gD rfl rfl rfl rfl rfl ?_
  refine o_len rfl ty25 rfl (List.length_map _) ?_
  refine o_gD rfl rfl rfl rfl rfl ?_
  refine o_eql rfl rfl rfl ?_
  refine o_pickF rfl rfl rfl ?_
  refine o_nil ?_
  refine k_cF rfl (decide_eq_false (by omega)) ?_
  refine k_skip ?_
  refine k_seq (k_region ?_)
  refine o_idxA rfl ty28 rfl rfl (by omega) (by omega) cl3 ?_
  refine o_load1 rfl rfl rfl sh3 rfl ?_
  refine o_faddr rfl rfl fld27_2 ?_
  refine o_load1 rfl rfl rfl sh25 rfl ?_
  refine o_len rfl ty25 rfl (List.length_map _) ?_
  refine o_call rfl (q40) (.lrefl _) ?_
  refine o_assign rfl ?_
  refine o_nil ?_
  refine k_gen [(2, U.lst Kd.ro 1 (intsU bs)), (3, U.box 0 0), (4, U.box 1 0), (7, .int .i64 ↑i)] ([SB.box [U.lst Kd.ro 3 (trisU (Shop.tools s)), .int .i64 (Shop.flo s), .int .i64 (Shop.fhi s), U.lst Kd.ro 3 (trisU (Shop.keys s))], SB.box [.int .i64 a, .int .i64 b]]) (.cons rfl (.cons rfl (.cons rfl (.cons rfl (.nil rfl))))) rfl fun fr => ?_
  refine k_seq ?_
  refine k_draw [.plain, .read true, .plain, .plain, .plain, .read true, .plain, .read true, .read false, .plain, .read true, .plain, .plain, .plain, .read true, .plain, .plain] (by kernel_rfl) (by kernel_rfl) (by kernel_rfl) ?_
  refine d_plain (o_faddr rfl rfl fld27_2 (o_nil rfl)) ?_
  refine d_load rfl (o_load1 rfl rfl rfl sh25 rfl (o_nil rfl)) ?_
  refine d_plain (o_move rfl (o_nil rfl)) ?_
  refine d_plain (o_idx (u := (q).u) rfl ty25 rfl rfl (Int.natCast_nonneg _) (by simp [hq]) cl64 (o_nil rfl)) ?_
  refine d_plain (o_faddrR rfl rfl fld64_0 (o_nil rfl)) ?_
  refine d_load rfl (o_loadRN rfl rfl sh24 rfl (o_nil rfl)) ?_
  refine d_plain (o_idxA rfl ty28 rfl rfl (by omega) (by omega) cl3 (o_nil rfl)) ?_
  refine d_load rfl (o_load1 rfl rfl rfl sh3 rfl (o_nil rfl)) ?_
  refine d_callR rfl (q36) (.int _ _) (.lrefl _) ?_
  refine d_genA [(2, U.lst Kd.ro 1 (intsU bs)), (3, U.box 0 0), (7, .int .i64 ↑i), (56, .int .i64 off)] [] ([SB.box [U.lst Kd.ro 3 (trisU (Shop.tools s)), .int .i64 (Shop.flo s), .int .i64 (Shop.fhi s), U.lst Kd.ro 3 (trisU (Shop.keys s))], SB.box [.int .i64 a, .int .i64 b]]) (.cons rfl (.cons rfl (.cons rfl (.cons rfl (.nil rfl))))) rfl rfl fun fr => ?_
  refine d_plain (o_faddr rfl rfl fld27_2 (o_nil rfl)) ?_
  refine d_load rfl (o_load1 rfl rfl rfl sh25 rfl (o_nil rfl)) ?_
  refine d_plain (o_move rfl (o_nil rfl)) ?_
  refine d_plain (o_idx (u := (q).u) rfl ty25 rfl rfl (Int.natCast_nonneg _) (by simp [hq]) cl64 (o_nil rfl)) ?_
  refine d_plain (o_faddrR rfl rfl fld64_1 (o_nil rfl)) ?_
  refine d_load rfl (o_loadR1 rfl rfl sh3 rfl (o_nil rfl)) ?_
  refine d_plain (o_assign rfl (o_nil rfl)) ?_
  refine d_plain (o_assign rfl (o_nil rfl)) ?_
  refine d_nil ?_
  refine k_gen [(2, U.lst Kd.ro 1 (intsU bs)), (3, U.box 0 0), (7, .int .i64 ↑i), (8, .int .i64 off), (9, .int .i64 (Tri.c q))] ([SB.box [U.lst Kd.ro 3 (trisU (Shop.tools s)), .int .i64 (Shop.flo s), .int .i64 (Shop.fhi s), U.lst Kd.ro 3 (trisU (Shop.keys s))], SB.box [.int .i64 a, .int .i64 b]]) (.cons rfl (.cons rfl (.cons rfl (.cons rfl (.cons rfl (.nil rfl)))))) rfl fun fr => ?_
  refine k_seq (k_region ?_)
  refine o_move rfl ?_
  refine o_assign rfl ?_
  refine o_nil ?_
  refine k_seq (k_region ?_)
  refine o_assign rfl ?_
  refine o_assign rfl ?_
  refine o_nil ?_
  refine k_seq (k_region ?_)
  refine o_move rfl ?_
  refine o_lit (es := [.int .i64 off]) rfl ty38 ze3 cl3 rfl rfl rfl rfl rfl rfl rfl rfl ?_
  refine o_assign rfl ?_
  refine o_nil ?_
  refine k_seq ?_
  refine k_block ?_
  by_cases h31 : (cho s true off q.c).2 = 31
  · refine k_loop (fun kk st => kk = 1 ∧ st.st = [.box s.cs, .box [.int .i64 a, .int .i64 b]] ∧ Holds st [(2, .lst .ro 1 (intsU bs)), (3, .box 0 0), (7, .int .i64 i), (8, .int .i64 off), (9, .int .i64 q.c), (10, .int .i64 off), (11, .lst .full 0 []), (12, .lst .full 0 []), (13, .lst .full 1 [.int .i64 off])]) (fun kk st hI => ?_) 1 _ ?_
    · obtain ⟨_, hst, hs⟩ := hI
      refine k_gen _ _ hs hst fun fr => ?_
      have q14 := ret14z (orc := orc) hi hk ho (metal := q.c) (by unfold metB; simp; omega) h31
      have q30 := q30 []
      rw [show playA s q off [] = .tup [.lst .ro 1 (intsU []), .int .i64 0, .int .i64 4] from if_pos h31] at q30
      refine k_seq ?_
      refine k_seq (k_region ?_)
      refine o_move rfl ?_
      refine o_len rfl ty38 rfl rfl ?_
      refine o_leq rfl rfl rfl ?_
      refine o_nil ?_
      refine k_cT rfl rfl ?_
      refine k_skip ?_
      refine k_block ?_
      refine k_seq (k_region ?_)
      refine o_loadN rfl rfl rfl sh27 rfl ?_
      refine o_move rfl ?_
      refine o_move rfl ?_
      refine o_call rfl (q14) (.lrefl _) ?_
      refine o_move rfl ?_
      refine o_extract rfl rfl rfl ?_
      refine o_extract rfl rfl rfl ?_
      refine o_extract rfl rfl rfl ?_
      refine o_assign rfl ?_
      refine o_assign rfl ?_
      refine o_assign rfl ?_
      refine o_nil ?_
      refine k_gen [(2, U.lst Kd.ro 1 (intsU bs)), (3, U.box 0 0), (7, .int .i64 ↑i), (8, .int .i64 off), (9, .int .i64 (Tri.c q)), (10, .int .i64 off), (11, U.lst Kd.full 0 []), (12, U.lst Kd.full 0 []), (13, U.lst Kd.full 1 [.int .i64 off]), (14, .int .i64 0), (16, .int .i64 4)] ([SB.box (Shop.cs s), SB.box [.int .i64 a, .int .i64 b]]) (.cons rfl (.cons rfl (.cons rfl (.cons rfl (.cons rfl (.cons rfl (.cons rfl (.cons rfl (.cons rfl (.cons rfl (.cons rfl (.nil rfl)))))))))))) rfl fun fr => ?_
      refine k_seq ?_
      refine k_seq (k_region ?_)
      refine o_move rfl ?_
      refine o_neq rfl rfl rfl ?_
      refine o_nil ?_
      refine k_cT rfl rfl ?_
      refine k_seq (k_region ?_)
      refine o_loadN rfl rfl rfl sh27 rfl ?_
      refine o_move rfl ?_
      refine o_move rfl ?_
      refine o_move rfl ?_
      refine o_call rfl (q30) (.lcons _ _ _ _ (.refl _) (.lcons _ _ _ _ (.refl _) (.lcons _ _ _ _ (.refl _) (.lcons _ _ _ _ (.nil _ _ _) (.lrefl _))))) ?_
      refine o_move rfl ?_
      refine o_extract rfl rfl rfl ?_
      refine o_extract rfl rfl rfl ?_
      refine o_extract rfl rfl rfl ?_
      refine o_assign rfl ?_
      refine o_assign rfl ?_
      refine o_assign rfl ?_
      refine o_nil ?_
      refine k_gen [(12, U.lst Kd.full 0 []), (16, .int .i64 4), (19, .int .i64 4)] ([SB.box (Shop.cs s), SB.box [.int .i64 a, .int .i64 b]]) (.cons rfl (.cons rfl (.cons rfl (.nil rfl)))) rfl fun fr => ?_
      refine k_seq (k_region ?_)
      refine o_move rfl ?_
      refine o_eql rfl rfl rfl ?_
      refine o_move rfl ?_
      refine o_gD rfl rfl rfl rfl rfl ?_
      refine o_move rfl ?_
      refine o_gD rfl rfl rfl rfl rfl ?_
      refine o_len rfl ty38 rfl rfl ?_
      refine o_gD rfl rfl rfl rfl rfl ?_
      refine o_eql rfl rfl rfl ?_
      refine o_pickT rfl rfl rfl ?_
      refine o_move rfl ?_
      refine o_gD rfl rfl rfl rfl rfl ?_
      refine o_move rfl ?_
      refine o_genA [(16, .int .i64 4), (95, U.bool (Decidable.decide (↑(List.length []) = (0 : Int)))), (96, .int .i64 4)] [] ([SB.box (Shop.cs s), SB.box [.int .i64 a, .int .i64 b]]) (.cons rfl (.cons rfl (.cons rfl (.nil rfl)))) rfl rfl fun fr => ?_
      refine o_gD rfl rfl rfl rfl rfl ?_
      refine o_genA [(16, .int .i64 4), (95, U.bool (Decidable.decide (↑(List.length []) = (0 : Int)))), (96, .int .i64 4)] [] ([SB.box (Shop.cs s), SB.box [.int .i64 a, .int .i64 b]]) (.cons rfl (.cons rfl (.cons rfl (.nil rfl)))) rfl rfl fun fr => ?_
      refine o_move rfl ?_
      refine o_gD rfl rfl rfl rfl rfl ?_
      refine o_eql rfl rfl rfl ?_
      refine o_pickT rfl rfl rfl ?_
      refine o_move rfl ?_
      refine o_gD rfl rfl rfl rfl rfl ?_
      refine o_call rfl (r20) (.lrefl _) ?_
      refine o_pickT rfl rfl rfl ?_
      refine o_assign rfl ?_
      refine o_nil ?_
      refine k_ret ?_
      refine ⟨.inr rfl, _, .cons _ _ _ _ (.tmp 6) .nil, ?_⟩
      exact .refl _
    · exact ⟨rfl, rfl, .cons rfl (.cons rfl (.cons rfl (.cons rfl (.cons rfl (.cons rfl (.cons rfl (.cons rfl (.cons rfl (.nil rfl)))))))))⟩
  · have hway : OnWay s off q.c 0 := ⟨ho, by omega, by omega, h31⟩
    have hplay : ∀ ms, playA s q off ms = playT (playR s ms off q.c) := fun ms => if_neg h31
    simp only [hplay] at q30
    refine k_loop (fun kk st => ∃ (p mv hd : List Int) (o m : Int), (kk : Int) = m ∧ Went s off q.c p mv hd o m ∧ st.st = [.box s.cs, .box [.int .i64 a, .int .i64 b]] ∧ Holds st [(2, .lst .ro 1 (intsU bs)), (3, .box 0 0), (7, .int .i64 i), (8, .int .i64 o), (9, .int .i64 m), (10, .int .i64 off), (11, accI p), (12, accI mv), (13, accH hd)]) (fun kk st hI => ?_) q.c.toNat _ ?_
    · obtain ⟨p, mv, hd, o, m, hkm, hw, hst, hs⟩ := hI
      refine k_gen _ _ hs hst fun fr => ?_
      obtain ⟨wo, wm0, wmi, w31⟩ := hw.way
      have hbo : -60 ≤ o ∧ o ≤ 60 := by unfold offB at wo; simpa using wo
      have hlm := hw.lmv
      have hlh := hw.lhd
      obtain ⟨c1, c2, hcc⟩ : ∃ c1 c2, cho s true o m = (c1, c2) := ⟨_, _, rfl⟩
      have q14 := ret14a (orc := orc) hi hk wo (metal := m) (by unfold metB; simp; omega) hcc (by rw [hcc] at w31; exact w31)
      cases hf : fineB s o with
      | true =>
        have hc0 := cho_fine hk (w := true) wm0 hf
        rw [hc0] at hcc
        cases hcc
        have hfew : (p.length : Int) ≤ (cho s true off q.c).2 := by have := hw.few; rw [hc0] at this; simpa using this
        have hp1 : playR s mv off q.c = some (p, o) := by
          have := hw.run []
          rw [List.append_nil] at this
          rw [this]; unfold playR; rw [if_pos hf]; show some (p ++ [], o) = _; rw [List.append_nil]
        have hp2 : playR s (mv ++ [0]) off q.c = none := by
          rw [hw.run]; unfold playR; rw [if_pos hf]; rfl
        have qa := q30 mv
        rw [hp1] at qa
        have qa : RetP Try.prog is orc 30 [s.u, .int .i64 i, .int .i64 off, .lst .ro 1 (intsU mv)] (.tup [.lst .ro 1 (intsU p), .int .i64 o, .int .i64 0]) := qa
        have qb := q30 (mv ++ [0])
        rw [hp2] at qb
        have qb : RetP Try.prog is orc 30 [s.u, .int .i64 i, .int .i64 off, .lst .ro 1 (intsU (mv ++ [0]))] (.tup [.lst .ro 1 (intsU []), .int .i64 0, .int .i64 32]) := qb
        have q44 := ret44 (orc := orc) hi mv 0 (by omega)
        have q25 := ret25 (orc := orc) hi p p (by omega)
        rw [decide_eq_true rfl] at q25
        have q35 := ret35 (orc := orc) hi s.flo s.fhi o
        rw [show (decide (s.flo ≤ o) && decide (o ≤ s.fhi)) = true from hf] at q35
        have q45 := ret45 (orc := orc) hi hk (went_heard hw) (went_gaps hw)
        obtain ⟨V, E, q21, hUE⟩ : ∃ V E : Int, RetP Try.prog is orc 21 [s.u, .int .i64 i] (.tup [.int .i64 V, .int .i64 E]) ∧ (E = 0 → (p.length : Int) ≤ V) := by
          refine ⟨_, _, q21, fun h => ?_⟩
          have h1 : (cho s true off q.c).2 ≤ strokeR s q := foldmax_mem _ _ _ (hk_iff.2 ⟨off, hdr.1, hdr.2, rfl⟩)
          have h2 : strokeR s q ≠ 31 := fun e => by rw [e] at h; revert h; decide
          unfold unN; rw [if_neg h2]; omega
        cases p with
        | nil =>
          obtain rfl : mv = [] := List.eq_nil_of_length_eq_zero hlm
          obtain ⟨x, rfl⟩ : ∃ x, hd = [x] := by match hd, hlh with | [x], _ => exact ⟨x, rfl⟩
          refine k_seq ?_
          refine k_seq (k_region ?_)
          refine o_move rfl ?_
          refine o_len rfl ty38 rfl rfl ?_
          refine o_leq rfl rfl rfl ?_
          refine o_nil ?_
          refine k_cT rfl rfl ?_
          refine k_skip ?_
          refine k_block ?_
          refine k_seq (k_region ?_)
          refine o_loadN rfl rfl rfl sh27 rfl ?_
          refine o_move rfl ?_
          refine o_move rfl ?_
          refine o_call rfl (q14) (.lrefl _) ?_
          refine o_move rfl ?_
          refine o_extract rfl rfl rfl ?_
          refine o_extract rfl rfl rfl ?_
          refine o_extract rfl rfl rfl ?_
          refine o_assign rfl ?_
          refine o_assign rfl ?_
          refine o_assign rfl ?_
          refine o_nil ?_
          refine k_gen [(2, U.lst Kd.ro 1 (intsU bs)), (3, U.box 0 0), (7, .int .i64 ↑i), (8, .int .i64 o), (9, .int .i64 m), (10, .int .i64 off), (11, accI []), (12, accI []), (13, accH [x]), (14, .int .i64 (-1 : Int)), (16, .int .i64 0)] ([SB.box (Shop.cs s), SB.box [.int .i64 a, .int .i64 b]]) (.cons rfl (.cons rfl (.cons rfl (.cons rfl (.cons rfl (.cons rfl (.cons rfl (.cons rfl (.cons rfl (.cons rfl (.cons rfl (.nil rfl)))))))))))) rfl fun fr => ?_
          refine k_seq ?_
          refine k_seq (k_region ?_)
          refine o_move rfl ?_
          refine o_neq rfl rfl rfl ?_
          refine o_nil ?_
          refine k_cF rfl rfl ?_
          refine k_skip ?_
          refine k_seq ?_
          refine k_seq (k_region ?_)
          refine o_move rfl ?_
          refine o_eql rfl rfl rfl ?_
          refine o_nil ?_
          refine k_cT rfl rfl ?_
          refine k_exit ?_
          refine k_seq (k_region ?_)
          refine o_loadN rfl rfl rfl sh27 rfl ?_
          refine o_move rfl ?_
          refine o_move rfl ?_
          refine o_move rfl ?_
          refine o_call rfl (qa) (.lcons _ _ _ _ (.refl _) (.lcons _ _ _ _ (.refl _) (.lcons _ _ _ _ (.refl _) (.lcons _ _ _ _ (.nil _ _ _) (.lrefl _))))) ?_
          refine o_move rfl ?_
          refine o_extract rfl rfl rfl ?_
          refine o_extract rfl rfl rfl ?_
          refine o_extract rfl rfl rfl ?_
          refine o_assign rfl ?_
          refine o_assign rfl ?_
          refine o_assign rfl ?_
          refine o_nil ?_
          refine k_gen [(3, U.box 0 0), (7, .int .i64 ↑i), (8, .int .i64 o), (10, .int .i64 off), (11, accI []), (12, accI []), (13, accH [x]), (21, U.lst Kd.ro 1 (intsU [])), (22, .int .i64 o), (23, .int .i64 0)] ([SB.box (Shop.cs s), SB.box [.int .i64 a, .int .i64 b]]) (.cons rfl (.cons rfl (.cons rfl (.cons rfl (.cons rfl (.cons rfl (.cons rfl (.cons rfl (.cons rfl (.cons rfl (.nil rfl))))))))))) rfl fun fr => ?_
          refine k_seq (k_region ?_)
          refine o_loadN rfl rfl rfl sh27 rfl ?_
          refine o_move rfl ?_
          refine o_call rfl (q21) (.lrefl _) ?_
          refine o_move rfl ?_
          refine o_extract rfl rfl rfl ?_
          refine o_extract rfl rfl rfl ?_
          refine o_assign rfl ?_
          refine o_assign rfl ?_
          refine o_nil ?_
          refine k_cut (fun st => st.st = [.box s.cs, .box [.int .i64 a, .int .i64 b]] ∧ Holds st [(3, .box 0 0), (7, .int .i64 i), (10, .int .i64 off), (11, accI []), (12, accI []), (13, accH [x])]) ?_ (fun st hM => ?_)
          · refine k_seq (k_region ?_)
            refine o_move rfl ?_
            refine o_neq rfl rfl rfl ?_
            refine o_move rfl ?_
            refine o_gD rfl rfl rfl rfl rfl ?_
            refine o_move rfl ?_
            refine o_gD rfl rfl rfl rfl rfl ?_
            refine o_move rfl ?_
            refine o_gD rfl rfl rfl rfl rfl ?_
            refine o_call rfl (q25) (.lcons _ _ _ _ (.refl _) (.lcons _ _ _ _ (.nil _ _ _) (.lrefl _))) ?_
            refine o_gD rfl rfl rfl rfl rfl ?_
            refine o_not rfl rfl ?_
            refine o_pickF rfl rfl rfl ?_
            refine o_move rfl ?_
            refine o_genA [(3, U.box 0 0), (7, .int .i64 ↑i), (8, .int .i64 o), (10, .int .i64 off), (11, accI []), (12, accI []), (13, accH [x]), (21, U.lst Kd.ro 1 (intsU [])), (22, .int .i64 o), (24, .int .i64 V), (25, .int .i64 E), (169, U.bool !Bool.true)] [] ([SB.box (Shop.cs s), SB.box [.int .i64 a, .int .i64 b]]) (.cons rfl (.cons rfl (.cons rfl (.cons rfl (.cons rfl (.cons rfl (.cons rfl (.cons rfl (.cons rfl (.cons rfl (.cons rfl (.cons rfl (.nil rfl))))))))))))) rfl rfl fun fr => ?_
            refine o_gD rfl rfl rfl rfl rfl ?_
            refine o_genA [(3, U.box 0 0), (7, .int .i64 ↑i), (8, .int .i64 o), (10, .int .i64 off), (11, accI []), (12, accI []), (13, accH [x]), (21, U.lst Kd.ro 1 (intsU [])), (22, .int .i64 o), (24, .int .i64 V), (25, .int .i64 E), (169, U.bool !Bool.true)] [] ([SB.box (Shop.cs s), SB.box [.int .i64 a, .int .i64 b]]) (.cons rfl (.cons rfl (.cons rfl (.cons rfl (.cons rfl (.cons rfl (.cons rfl (.cons rfl (.cons rfl (.cons rfl (.cons rfl (.cons rfl (.nil rfl))))))))))))) rfl rfl fun fr => ?_
            refine o_move rfl ?_
            refine o_gD rfl rfl rfl rfl rfl ?_
            refine o_move rfl ?_
            refine o_gD rfl rfl rfl rfl rfl ?_
            refine o_neq rfl rfl rfl ?_
            refine o_pickF rfl rfl rfl ?_
            refine o_move rfl ?_
            refine o_gD rfl rfl rfl rfl (decide_eq_false (by omega)) ?_
            refine o_faddr rfl rfl fld27_1 ?_
            refine o_gD rfl rfl rfl rfl (decide_eq_false (by omega)) ?_
            refine o_loadN rfl rfl rfl sh24 rfl ?_
            refine o_gD rfl rfl rfl rfl (decide_eq_false (by omega)) ?_
            refine o_move rfl ?_
            refine o_gD rfl rfl rfl rfl (decide_eq_false (by omega)) ?_
            refine o_call rfl (q35) (.lrefl _) ?_
            refine o_genA [(3, U.box 0 0), (7, .int .i64 ↑i), (10, .int .i64 off), (11, accI []), (12, accI []), (13, accH [x]), (21, U.lst Kd.ro 1 (intsU [])), (24, .int .i64 V), (25, .int .i64 E), (174, U.bool (Decidable.decide (o ≠ o))), (178, U.bool Bool.true)] [] ([SB.box (Shop.cs s), SB.box [.int .i64 a, .int .i64 b]]) (.cons rfl (.cons rfl (.cons rfl (.cons rfl (.cons rfl (.cons rfl (.cons rfl (.cons rfl (.cons rfl (.cons rfl (.cons rfl (.nil rfl)))))))))))) rfl rfl fun fr => ?_
            refine o_gD rfl rfl rfl rfl (decide_eq_false (by omega)) ?_
            refine o_genA [(3, U.box 0 0), (7, .int .i64 ↑i), (10, .int .i64 off), (11, accI []), (12, accI []), (13, accH [x]), (21, U.lst Kd.ro 1 (intsU [])), (24, .int .i64 V), (25, .int .i64 E), (174, U.bool (Decidable.decide (o ≠ o))), (178, U.bool Bool.true)] [] ([SB.box (Shop.cs s), SB.box [.int .i64 a, .int .i64 b]]) (.cons rfl (.cons rfl (.cons rfl (.cons rfl (.cons rfl (.cons rfl (.cons rfl (.cons rfl (.cons rfl (.cons rfl (.cons rfl (.nil rfl)))))))))))) rfl rfl fun fr => ?_
            refine o_not rfl rfl ?_
            refine o_pickF rfl rfl (decide_eq_false (by omega)) ?_
            refine o_move rfl ?_
            refine o_gD rfl rfl rfl rfl rfl ?_
            refine o_move rfl ?_
            refine o_gD rfl rfl rfl rfl rfl ?_
            refine o_eql rfl rfl rfl ?_
            refine o_gD rfl rfl rfl rfl rfl ?_
            refine o_move rfl ?_
            refine o_guardX rfl rfl rfl rfl (fun h184 => ?_) (fun h184 => ?_)
            · refine o_move rfl ?_
              refine o_gD rfl rfl rfl rfl (by assumption) ?_
              refine o_len rfl ty38 rfl (List.length_map _) ?_
              refine o_gD rfl rfl rfl rfl (by assumption) ?_
              refine o_move rfl ?_
              refine o_genA [(3, U.box 0 0), (7, .int .i64 ↑i), (10, .int .i64 off), (11, accI []), (12, accI []), (13, accH [x]), (181, U.bool !Bool.true), (184, U.bool (Decidable.decide (E = (0 : Int)))), (186, .int .i64 ↑(List.length [])), (187, .int .i64 V)] [] ([SB.box (Shop.cs s), SB.box [.int .i64 a, .int .i64 b]]) (.cons rfl (.cons rfl (.cons rfl (.cons rfl (.cons rfl (.cons rfl (.cons rfl (.cons rfl (.cons rfl (.cons rfl (.nil rfl))))))))))) rfl rfl fun fr => ?_
              refine o_gD rfl rfl rfl rfl (by assumption) ?_
              refine o_genA [(3, U.box 0 0), (7, .int .i64 ↑i), (10, .int .i64 off), (11, accI []), (12, accI []), (13, accH [x]), (181, U.bool !Bool.true), (184, U.bool (Decidable.decide (E = (0 : Int)))), (186, .int .i64 ↑(List.length [])), (187, .int .i64 V)] [] ([SB.box (Shop.cs s), SB.box [.int .i64 a, .int .i64 b]]) (.cons rfl (.cons rfl (.cons rfl (.cons rfl (.cons rfl (.cons rfl (.cons rfl (.cons rfl (.cons rfl (.cons rfl (.nil rfl))))))))))) rfl rfl fun fr => ?_
              refine o_gtr rfl rfl rfl ?_
              refine o_gD rfl rfl rfl rfl rfl ?_
              refine o_pickT rfl rfl (by assumption) ?_
              refine o_pickF rfl rfl rfl ?_
              refine o_nil ?_
              refine k_gen [(3, U.box 0 0), (7, .int .i64 ↑i), (10, .int .i64 off), (11, accI []), (12, accI []), (13, accH [x]), (190, U.bool (Decidable.decide (V < ↑(List.length []))))] ([SB.box (Shop.cs s), SB.box [.int .i64 a, .int .i64 b]]) (.cons rfl (.cons rfl (.cons rfl (.cons rfl (.cons rfl (.cons rfl (.cons rfl (.nil rfl)))))))) rfl fun fr => ?_
              refine k_cond rfl (fun h190 => ?_) (fun h190 => ?_)
              · refine k_seq (k_region ?_)
                refine o_assign rfl ?_
                refine o_nil ?_
                refine k_ret ?_
                exact absurd (hUE (of_decide_eq_true h184)) (by have := of_decide_eq_true h190; omega)
              · refine k_skip ?_
                exact ⟨rfl, rfl, .cons rfl (.cons rfl (.cons rfl (.cons rfl (.cons rfl (.cons rfl (.nil rfl))))))⟩
            · refine o_gS rfl rfl rfl rfl (by assumption) ?_
              refine o_gS rfl rfl rfl rfl (by assumption) ?_
              refine o_genA [(3, U.box 0 0), (7, .int .i64 ↑i), (10, .int .i64 off), (11, accI []), (12, accI []), (13, accH [x]), (181, U.bool !Bool.true), (184, U.bool (Decidable.decide (E = (0 : Int)))), (186, U.tup []), (187, U.tup [])] [] ([SB.box (Shop.cs s), SB.box [.int .i64 a, .int .i64 b]]) (.cons rfl (.cons rfl (.cons rfl (.cons rfl (.cons rfl (.cons rfl (.cons rfl (.cons rfl (.cons rfl (.cons rfl (.nil rfl))))))))))) rfl rfl fun fr => ?_
              refine o_gS rfl rfl rfl rfl (by assumption) ?_
              refine o_gD rfl rfl rfl rfl rfl ?_
              refine o_pickF rfl rfl (by assumption) ?_
              refine o_pickF rfl rfl rfl ?_
              refine o_nil ?_
              refine k_gen [(3, U.box 0 0), (7, .int .i64 ↑i), (10, .int .i64 off), (11, accI []), (12, accI []), (13, accH [x]), (190, U.bool Bool.false)] ([SB.box (Shop.cs s), SB.box [.int .i64 a, .int .i64 b]]) (.cons rfl (.cons rfl (.cons rfl (.cons rfl (.cons rfl (.cons rfl (.cons rfl (.nil rfl)))))))) rfl fun fr => ?_
              refine k_cF rfl rfl ?_
              refine k_skip ?_
              exact ⟨rfl, rfl, .cons rfl (.cons rfl (.cons rfl (.cons rfl (.cons rfl (.cons rfl (.nil rfl))))))⟩
          obtain ⟨hst, hs⟩ := hM
          refine k_gen _ _ hs hst fun fr => ?_
          refine k_seq ?_
          refine k_draw [.read true, .plain, .plain, .plain, .quiet, .plain, .plain, .plain, .plain, .plain, .plain, .plain, .plain] (by kernel_rfl) (by kernel_rfl) (by kernel_rfl) ?_
          refine d_load rfl (o_loadN rfl rfl rfl sh27 rfl (o_nil rfl)) ?_
          refine d_plain (o_move rfl (o_nil rfl)) ?_
          refine d_plain (o_move rfl (o_nil rfl)) ?_
          refine d_plain (o_move rfl (o_nil rfl)) ?_
          refine d_callQ rfl (q44) (.lcons _ _ _ _ (.nil _ _ _) (.lrefl _)) ?_
          refine d_plain (o_call rfl (qb) (.lrefl _) (o_nil rfl)) ?_
          refine d_plain (o_move rfl (o_nil rfl)) ?_
          refine d_plain (o_extract rfl rfl rfl (o_nil rfl)) ?_
          refine d_plain (o_extract rfl rfl rfl (o_nil rfl)) ?_
          refine d_genA [(3, U.box 0 0), (7, .int .i64 ↑i), (10, .int .i64 off), (11, accI []), (12, accI []), (13, accH [x]), (191, U.tup [U.lst Kd.ro 1 (intsU []), .int .i64 0, .int .i64 32]), (198, U.lst Kd.ro 1 (intsU [])), (199, .int .i64 0)] [] ([SB.box (Shop.cs s), SB.box [.int .i64 a, .int .i64 b]]) (.cons rfl (.cons rfl (.cons rfl (.cons rfl (.cons rfl (.cons rfl (.cons rfl (.cons rfl (.cons rfl (.nil rfl)))))))))) rfl rfl fun fr => ?_
          refine d_plain (o_extract rfl rfl rfl (o_nil rfl)) ?_
          refine d_plain (o_assign rfl (o_nil rfl)) ?_
          refine d_plain (o_assign rfl (o_nil rfl)) ?_
          refine d_plain (o_assign rfl (o_nil rfl)) ?_
          refine d_nil ?_
          refine k_gen [(3, U.box 0 0), (7, .int .i64 ↑i), (10, .int .i64 off), (11, accI []), (12, accI []), (13, accH [x]), (28, .int .i64 32)] ([SB.box (Shop.cs s), SB.box [.int .i64 a, .int .i64 b]]) (.cons rfl (.cons rfl (.cons rfl (.cons rfl (.cons rfl (.cons rfl (.cons rfl (.nil rfl)))))))) rfl fun fr => ?_
          refine k_seq ?_
          refine k_seq (k_region ?_)
          refine o_move rfl ?_
          refine o_neq rfl rfl rfl ?_
          refine o_nil ?_
          refine k_cF rfl rfl ?_
          refine k_skip ?_
          refine k_seq ?_
          refine k_seq (k_region ?_)
          refine o_move rfl ?_
          refine o_len rfl ty38 rfl rfl ?_
          refine o_gtr rfl rfl rfl ?_
          refine o_nil ?_
          refine k_cF rfl rfl ?_
          refine k_skip ?_
          refine k_seq (k_region ?_)
          refine o_loadN rfl rfl rfl sh27 rfl ?_
          refine o_move rfl ?_
          refine o_call rfl (q45) (.lcons _ _ _ _ (.refl _) (.lcons _ _ _ _ (.ro _ _ _) (.lrefl _))) ?_
          refine o_move rfl ?_
          refine o_extract rfl rfl rfl ?_
          refine o_extract rfl rfl rfl ?_
          refine o_assign rfl ?_
          refine o_assign rfl ?_
          refine o_nil ?_
          refine k_gen [(3, U.box 0 0), (11, accI []), (29, U.lst Kd.ro 1 []), (30, .int .i64 0)] ([SB.box (Shop.cs s), SB.box [.int .i64 a, .int .i64 b]]) (.cons rfl (.cons rfl (.cons rfl (.cons rfl (.nil rfl))))) rfl fun fr => ?_
          refine k_seq ?_
          refine k_seq (k_region ?_)
          refine o_move rfl ?_
          refine o_neq rfl rfl rfl ?_
          refine o_move rfl ?_
          refine o_gD rfl rfl rfl rfl rfl ?_
          refine o_move rfl ?_
          refine o_gD rfl rfl rfl rfl rfl ?_
          refine o_len rfl ty68 rfl rfl ?_
          refine o_gD rfl rfl rfl rfl rfl ?_
          refine o_move rfl ?_
          refine o_gD rfl rfl rfl rfl rfl ?_
          refine o_len rfl ty38 rfl rfl ?_
          refine o_gD rfl rfl rfl rfl rfl ?_
          refine o_neq rfl rfl rfl ?_
          refine o_pickF rfl rfl rfl ?_
          refine o_nil ?_
          refine k_cF rfl rfl ?_
          refine k_skip ?_
          refine k_seq ?_
          refine k_seq (k_region ?_)
          refine o_assign rfl ?_
          refine o_nil ?_
          refine k_block ?_
          refine k_loop (fun kk st => kk = 1 ∧ st.st = [.box s.cs, .box [.int .i64 a, .int .i64 b]] ∧ Holds st [(29, .lst .ro 1 []), (31, .int .i64 0)]) (fun kk st hI => ?_) 1 _ ?_
          · obtain ⟨_, hst, hs⟩ := hI
            refine k_gen _ _ hs hst fun fr => ?_
            refine k_seq ?_
            refine k_seq (k_region ?_)
            refine o_move rfl ?_
            refine o_move rfl ?_
            refine o_len rfl ty68 rfl rfl ?_
            refine o_lss rfl rfl rfl ?_
            refine o_nil ?_
            refine k_cF rfl rfl ?_
            refine k_exit ?_
            refine k_seq (k_region ?_)
            refine o_call rfl (r20) (.lrefl _) ?_
            refine o_assign rfl ?_
            refine o_nil ?_
            refine k_ret ?_
            refine ⟨.inr rfl, _, .cons _ _ _ _ (.tmp 6) .nil, ?_⟩
            exact .refl _
          · exact ⟨rfl, rfl, .cons rfl (.cons rfl (.nil rfl))⟩
        | cons y p =>
          obtain ⟨z, mv, rfl⟩ : ∃ z r, mv = z :: r := by match mv, hlm with | z :: r, _ => exact ⟨z, r, rfl⟩
          obtain ⟨u, v, hd, rfl⟩ : ∃ u v r, hd = u :: v :: r := by match hd, hlh with | u :: v :: r, _ => exact ⟨u, v, r, rfl⟩
          refine k_seq ?_
          refine k_seq (k_region ?_)
          refine o_move rfl ?_
          refine o_len rfl ty38 rfl (List.length_map _) ?_
          refine o_leq rfl rfl rfl ?_
          refine o_nil ?_
          refine k_cT rfl (decide_eq_true (by omega)) ?_
          refine k_skip ?_
          refine k_block ?_
          refine k_seq (k_region ?_)
          refine o_loadN rfl rfl rfl sh27 rfl ?_
          refine o_move rfl ?_
          refine o_move rfl ?_
          refine o_call rfl (q14) (.lrefl _) ?_
          refine o_move rfl ?_
          refine o_extract rfl rfl rfl ?_
          refine o_extract rfl rfl rfl ?_
          refine o_extract rfl rfl rfl ?_
          refine o_assign rfl ?_
          refine o_assign rfl ?_
          refine o_assign rfl ?_
          refine o_nil ?_
          refine k_gen [(2, U.lst Kd.ro 1 (intsU bs)), (3, U.box 0 0), (7, .int .i64 ↑i), (8, .int .i64 o), (9, .int .i64 m), (10, .int .i64 off), (11, accI (y :: p)), (12, accI (z :: mv)), (13, accH (u :: v :: hd)), (14, .int .i64 (-1 : Int)), (16, .int .i64 0)] ([SB.box (Shop.cs s), SB.box [.int .i64 a, .int .i64 b]]) (.cons rfl (.cons rfl (.cons rfl (.cons rfl (.cons rfl (.cons rfl (.cons rfl (.cons rfl (.cons rfl (.cons rfl (.cons rfl (.nil rfl)))))))))))) rfl fun fr => ?_
          refine k_seq ?_
          refine k_seq (k_region ?_)
          refine o_move rfl ?_
          refine o_neq rfl rfl rfl ?_
          refine o_nil ?_
          refine k_cF rfl rfl ?_
          refine k_skip ?_
          refine k_seq ?_
          refine k_seq (k_region ?_)
          refine o_move rfl ?_
          refine o_eql rfl rfl rfl ?_
          refine o_nil ?_
          refine k_cT rfl rfl ?_
          refine k_exit ?_
          refine k_seq (k_region ?_)
          refine o_loadN rfl rfl rfl sh27 rfl ?_
          refine o_move rfl ?_
          refine o_move rfl ?_
          refine o_move rfl ?_
          refine o_call rfl (qa) (.lrefl _) ?_
          refine o_move rfl ?_
          refine o_extract rfl rfl rfl ?_
          refine o_extract rfl rfl rfl ?_
          refine o_extract rfl rfl rfl ?_
          refine o_assign rfl ?_
          refine o_assign rfl ?_
          refine o_assign rfl ?_
          refine o_nil ?_
          refine k_gen [(3, U.box 0 0), (7, .int .i64 ↑i), (8, .int .i64 o), (10, .int .i64 off), (11, accI (y :: p)), (12, accI (z :: mv)), (13, accH (u :: v :: hd)), (21, U.lst Kd.ro 1 (intsU (y :: p))), (22, .int .i64 o), (23, .int .i64 0)] ([SB.box (Shop.cs s), SB.box [.int .i64 a, .int .i64 b]]) (.cons rfl (.cons rfl (.cons rfl (.cons rfl (.cons rfl (.cons rfl (.cons rfl (.cons rfl (.cons rfl (.cons rfl (.nil rfl))))))))))) rfl fun fr => ?_
          refine k_seq (k_region ?_)
          refine o_loadN rfl rfl rfl sh27 rfl ?_
          refine o_move rfl ?_
          refine o_call rfl (q21) (.lrefl _) ?_
          refine o_move rfl ?_
          refine o_extract rfl rfl rfl ?_
          refine o_extract rfl rfl rfl ?_
          refine o_assign rfl ?_
          refine o_assign rfl ?_
          refine o_nil ?_
          refine k_cut (fun st => st.st = [.box s.cs, .box [.int .i64 a, .int .i64 b]] ∧ Holds st [(3, .box 0 0), (7, .int .i64 i), (10, .int .i64 off), (11, accI (y :: p)), (12, accI (z :: mv)), (13, accH (u :: v :: hd))]) ?_ (fun st hM => ?_)
          · refine k_seq (k_region ?_)
            refine o_move rfl ?_
            refine o_neq rfl rfl rfl ?_
            refine o_move rfl ?_
            refine o_gD rfl rfl rfl rfl rfl ?_
            refine o_move rfl ?_
            refine o_gD rfl rfl rfl rfl rfl ?_
            refine o_move rfl ?_
            refine o_gD rfl rfl rfl rfl rfl ?_
            refine o_call rfl (q25) (.lrefl _) ?_
            refine o_gD rfl rfl rfl rfl rfl ?_
            refine o_not rfl rfl ?_
            refine o_pickF rfl rfl rfl ?_
            refine o_move rfl ?_
            refine o_genA [(3, U.box 0 0), (7, .int .i64 ↑i), (8, .int .i64 o), (10, .int .i64 off), (11, accI (y :: p)), (12, accI (z :: mv)), (13, accH (u :: v :: hd)), (21, U.lst Kd.ro 1 (intsU (y :: p))), (22, .int .i64 o), (24, .int .i64 V), (25, .int .i64 E), (169, U.bool !Bool.true)] [(165, .slot 11)] ([SB.box (Shop.cs s), SB.box [.int .i64 a, .int .i64 b]]) (.cons rfl (.cons rfl (.cons rfl (.cons rfl (.cons rfl (.cons rfl (.cons rfl (.cons rfl (.cons rfl (.cons rfl (.cons rfl (.cons rfl (.nil rfl))))))))))))) rfl rfl fun fr => ?_
            refine o_gD rfl rfl rfl rfl rfl ?_
            refine o_genA [(3, U.box 0 0), (7, .int .i64 ↑i), (8, .int .i64 o), (10, .int .i64 off), (11, accI (y :: p)), (12, accI (z :: mv)), (13, accH (u :: v :: hd)), (21, U.lst Kd.ro 1 (intsU (y :: p))), (22, .int .i64 o), (24, .int .i64 V), (25, .int .i64 E), (169, U.bool !Bool.true)] [(165, .slot 11)] ([SB.box (Shop.cs s), SB.box [.int .i64 a, .int .i64 b]]) (.cons rfl (.cons rfl (.cons rfl (.cons rfl (.cons rfl (.cons rfl (.cons rfl (.cons rfl (.cons rfl (.cons rfl (.cons rfl (.cons rfl (.nil rfl))))))))))))) rfl rfl fun fr => ?_
            refine o_move rfl ?_
            refine o_gD rfl rfl rfl rfl rfl ?_
            refine o_move rfl ?_
            refine o_gD rfl rfl rfl rfl rfl ?_
            refine o_neq rfl rfl rfl ?_
            refine o_pickF rfl rfl rfl ?_
            refine o_move rfl ?_
            refine o_gD rfl rfl rfl rfl (decide_eq_false (by omega)) ?_
            refine o_faddr rfl rfl fld27_1 ?_
            refine o_gD rfl rfl rfl rfl (decide_eq_false (by omega)) ?_
            refine o_loadN rfl rfl rfl sh24 rfl ?_
            refine o_gD rfl rfl rfl rfl (decide_eq_false (by omega)) ?_
            refine o_move rfl ?_
            refine o_gD rfl rfl rfl rfl (decide_eq_false (by omega)) ?_
            refine o_call rfl (q35) (.lrefl _) ?_
            refine o_genA [(3, U.box 0 0), (7, .int .i64 ↑i), (10, .int .i64 off), (11, accI (y :: p)), (12, accI (z :: mv)), (13, accH (u :: v :: hd)), (21, U.lst Kd.ro 1 (intsU (y :: p))), (24, .int .i64 V), (25, .int .i64 E), (174, U.bool (Decidable.decide (o ≠ o))), (178, U.bool Bool.true)] [(165, .slot 11)] ([SB.box (Shop.cs s), SB.box [.int .i64 a, .int .i64 b]]) (.cons rfl (.cons rfl (.cons rfl (.cons rfl (.cons rfl (.cons rfl (.cons rfl (.cons rfl (.cons rfl (.cons rfl (.cons rfl (.nil rfl)))))))))))) rfl rfl fun fr => ?_
            refine o_gD rfl rfl rfl rfl (decide_eq_false (by omega)) ?_
            refine o_genA [(3, U.box 0 0), (7, .int .i64 ↑i), (10, .int .i64 off), (11, accI (y :: p)), (12, accI (z :: mv)), (13, accH (u :: v :: hd)), (21, U.lst Kd.ro 1 (intsU (y :: p))), (24, .int .i64 V), (25, .int .i64 E), (174, U.bool (Decidable.decide (o ≠ o))), (178, U.bool Bool.true)] [(165, .slot 11)] ([SB.box (Shop.cs s), SB.box [.int .i64 a, .int .i64 b]]) (.cons rfl (.cons rfl (.cons rfl (.cons rfl (.cons rfl (.cons rfl (.cons rfl (.cons rfl (.cons rfl (.cons rfl (.cons rfl (.nil rfl)))))))))))) rfl rfl fun fr => ?_
            refine o_not rfl rfl ?_
            refine o_pickF rfl rfl (decide_eq_false (by omega)) ?_
            refine o_move rfl ?_
            refine o_gD rfl rfl rfl rfl rfl ?_
            refine o_move rfl ?_
            refine o_gD rfl rfl rfl rfl rfl ?_
            refine o_eql rfl rfl rfl ?_
            refine o_gD rfl rfl rfl rfl rfl ?_
            refine o_move rfl ?_
            refine o_guardX rfl rfl rfl rfl (fun h184 => ?_) (fun h184 => ?_)
            · refine o_move rfl ?_
              refine o_gD rfl rfl rfl rfl (by assumption) ?_
              refine o_len rfl ty38 rfl (List.length_map _) ?_
              refine o_gD rfl rfl rfl rfl (by assumption) ?_
              refine o_move rfl ?_
              refine o_genA [(3, U.box 0 0), (7, .int .i64 ↑i), (10, .int .i64 off), (11, accI (y :: p)), (12, accI (z :: mv)), (13, accH (u :: v :: hd)), (181, U.bool !Bool.true), (184, U.bool (Decidable.decide (E = (0 : Int)))), (186, .int .i64 ↑(List.length (y :: p))), (187, .int .i64 V)] [(165, .slot 11)] ([SB.box (Shop.cs s), SB.box [.int .i64 a, .int .i64 b]]) (.cons rfl (.cons rfl (.cons rfl (.cons rfl (.cons rfl (.cons rfl (.cons rfl (.cons rfl (.cons rfl (.cons rfl (.nil rfl))))))))))) rfl rfl fun fr => ?_
              refine o_gD rfl rfl rfl rfl (by assumption) ?_
              refine o_genA [(3, U.box 0 0), (7, .int .i64 ↑i), (10, .int .i64 off), (11, accI (y :: p)), (12, accI (z :: mv)), (13, accH (u :: v :: hd)), (181, U.bool !Bool.true), (184, U.bool (Decidable.decide (E = (0 : Int)))), (186, .int .i64 ↑(List.length (y :: p))), (187, .int .i64 V)] [(165, .slot 11)] ([SB.box (Shop.cs s), SB.box [.int .i64 a, .int .i64 b]]) (.cons rfl (.cons rfl (.cons rfl (.cons rfl (.cons rfl (.cons rfl (.cons rfl (.cons rfl (.cons rfl (.cons rfl (.nil rfl))))))))))) rfl rfl fun fr => ?_
              refine o_gtr rfl rfl rfl ?_
              refine o_gD rfl rfl rfl rfl rfl ?_
              refine o_pickT rfl rfl (by assumption) ?_
              refine o_pickF rfl rfl rfl ?_
              refine o_nil ?_
              refine k_gen [(3, U.box 0 0), (7, .int .i64 ↑i), (10, .int .i64 off), (11, accI (y :: p)), (12, accI (z :: mv)), (13, accH (u :: v :: hd)), (190, U.bool (Decidable.decide (V < ↑(List.length (y :: p)))))] ([SB.box (Shop.cs s), SB.box [.int .i64 a, .int .i64 b]]) (.cons rfl (.cons rfl (.cons rfl (.cons rfl (.cons rfl (.cons rfl (.cons rfl (.nil rfl)))))))) rfl fun fr => ?_
              refine k_cond rfl (fun h190 => ?_) (fun h190 => ?_)
              · refine k_seq (k_region ?_)
                refine o_assign rfl ?_
                refine o_nil ?_
                refine k_ret ?_
                exact absurd (hUE (of_decide_eq_true h184)) (by have := of_decide_eq_true h190; omega)
              · refine k_skip ?_
                exact ⟨rfl, rfl, .cons rfl (.cons rfl (.cons rfl (.cons rfl (.cons rfl (.cons rfl (.nil rfl))))))⟩
            · refine o_gS rfl rfl rfl rfl (by assumption) ?_
              refine o_gS rfl rfl rfl rfl (by assumption) ?_
              refine o_genA [(3, U.box 0 0), (7, .int .i64 ↑i), (10, .int .i64 off), (11, accI (y :: p)), (12, accI (z :: mv)), (13, accH (u :: v :: hd)), (181, U.bool !Bool.true), (184, U.bool (Decidable.decide (E = (0 : Int)))), (186, U.tup []), (187, U.tup [])] [(165, .slot 11)] ([SB.box (Shop.cs s), SB.box [.int .i64 a, .int .i64 b]]) (.cons rfl (.cons rfl (.cons rfl (.cons rfl (.cons rfl (.cons rfl (.cons rfl (.cons rfl (.cons rfl (.cons rfl (.nil rfl))))))))))) rfl rfl fun fr => ?_
              refine o_gS rfl rfl rfl rfl (by assumption) ?_
              refine o_gD rfl rfl rfl rfl rfl ?_
              refine o_pickF rfl rfl (by assumption) ?_
              refine o_pickF rfl rfl rfl ?_
              refine o_nil ?_
              refine k_gen [(3, U.box 0 0), (7, .int .i64 ↑i), (10, .int .i64 off), (11, accI (y :: p)), (12, accI (z :: mv)), (13, accH (u :: v :: hd)), (190, U.bool Bool.false)] ([SB.box (Shop.cs s), SB.box [.int .i64 a, .int .i64 b]]) (.cons rfl (.cons rfl (.cons rfl (.cons rfl (.cons rfl (.cons rfl (.cons rfl (.nil rfl)))))))) rfl fun fr => ?_
              refine k_cF rfl rfl ?_
              refine k_skip ?_
              exact ⟨rfl, rfl, .cons rfl (.cons rfl (.cons rfl (.cons rfl (.cons rfl (.cons rfl (.nil rfl))))))⟩
          obtain ⟨hst, hs⟩ := hM
          refine k_gen _ _ hs hst fun fr => ?_
          have hp3 := hw.less (by simp)
          rw [show (y :: p).length - 1 = mv.length by simp at hlm ⊢; omega] at hp3
          have qc := q30 ((z :: mv).take mv.length)
          rw [hp3, show intsU ((z :: mv).take mv.length) = (intsU (z :: mv)).take mv.length from List.map_take] at qc
          have qc : RetP Try.prog is orc 30 [s.u, .int .i64 i, .int .i64 off, .lst .ro 1 ((intsU (z :: mv)).take mv.length)] (.tup [.lst .ro 1 (intsU []), .int .i64 0, .int .i64 32]) := qc
          have hRl : (toldL s (u :: v :: hd) ((u :: v :: hd).length - 1)).length = (y :: p).length := by rw [told_len]; simp at hlh ⊢; omega
          have hRg : ∀ n, n < (y :: p).length → (toldL s (u :: v :: hd) ((u :: v :: hd).length - 1))[n]? = some (gapL s (u :: v :: hd) n) := fun n hn => by
            unfold toldL
            rw [List.getElem?_map, List.getElem?_range (by simp at hlh hn ⊢; omega)]; rfl
          generalize toldL s (u :: v :: hd) ((u :: v :: hd).length - 1) = R at q45 hRl hRg
          have k205 : decide ((0 : Int) < ((z :: mv).length : Int)) = true := decide_eq_true (by simp)
          have k235 : decide ((R.length : Int) ≠ ((y :: p).length : Int)) = false := by rw [hRl]; simp
          refine k_seq ?_
          refine k_draw [.read true, .plain, .plain, .plain, .quiet, .plain, .plain, .plain, .plain, .plain, .plain, .plain, .plain] (by kernel_rfl) (by kernel_rfl) (by kernel_rfl) ?_
          refine d_load rfl (o_loadN rfl rfl rfl sh27 rfl (o_nil rfl)) ?_
          refine d_plain (o_move rfl (o_nil rfl)) ?_
          refine d_plain (o_move rfl (o_nil rfl)) ?_
          refine d_plain (o_move rfl (o_nil rfl)) ?_
          refine d_callQ rfl (q44) (.lrefl _) ?_
          refine d_plain (o_call rfl (qb) (.lrefl _) (o_nil rfl)) ?_
          refine d_plain (o_move rfl (o_nil rfl)) ?_
          refine d_plain (o_extract rfl rfl rfl (o_nil rfl)) ?_
          refine d_plain (o_extract rfl rfl rfl (o_nil rfl)) ?_
          refine d_genA [(3, U.box 0 0), (7, .int .i64 ↑i), (10, .int .i64 off), (11, accI (y :: p)), (12, accI (z :: mv)), (13, accH (u :: v :: hd)), (191, U.tup [U.lst Kd.ro 1 (intsU []), .int .i64 0, .int .i64 32]), (198, U.lst Kd.ro 1 (intsU [])), (199, .int .i64 0)] [(195, .slot 12)] ([SB.box (Shop.cs s), SB.box [.int .i64 a, .int .i64 b]]) (.cons rfl (.cons rfl (.cons rfl (.cons rfl (.cons rfl (.cons rfl (.cons rfl (.cons rfl (.cons rfl (.nil rfl)))))))))) rfl rfl fun fr => ?_
          refine d_plain (o_extract rfl rfl rfl (o_nil rfl)) ?_
          refine d_plain (o_assign rfl (o_nil rfl)) ?_
          refine d_plain (o_assign rfl (o_nil rfl)) ?_
          refine d_plain (o_assign rfl (o_nil rfl)) ?_
          refine d_nil ?_
          refine k_gen [(3, U.box 0 0), (7, .int .i64 ↑i), (10, .int .i64 off), (11, accI (y :: p)), (12, accI (z :: mv)), (13, accH (u :: v :: hd)), (28, .int .i64 32)] ([SB.box (Shop.cs s), SB.box [.int .i64 a, .int .i64 b]]) (.cons rfl (.cons rfl (.cons rfl (.cons rfl (.cons rfl (.cons rfl (.cons rfl (.nil rfl)))))))) rfl fun fr => ?_
          refine k_seq ?_
          refine k_seq (k_region ?_)
          refine o_move rfl ?_
          refine o_neq rfl rfl rfl ?_
          refine o_nil ?_
          refine k_cF rfl rfl ?_
          refine k_skip ?_
          refine k_seq ?_
          refine k_seq (k_region ?_)
          refine o_move rfl ?_
          refine o_len rfl ty38 rfl (List.length_map _) ?_
          refine o_gtr rfl rfl rfl ?_
          refine o_nil ?_
          refine k_cT rfl (by assumption) ?_
          refine k_seq ?_
          refine k_draw [.read true, .plain, .plain, .plain, .plain, .read true, .plain, .plain, .plain, .plain, .plain, .plain, .plain, .plain] (by kernel_rfl) (by kernel_rfl) (by kernel_rfl) ?_
          refine d_load rfl (o_loadN rfl rfl rfl sh27 rfl (o_nil rfl)) ?_
          refine d_plain (o_move rfl (o_nil rfl)) ?_
          refine d_plain (o_move rfl (o_nil rfl)) ?_
          refine d_plain (o_move rfl (o_nil rfl)) ?_
          refine d_plain (o_move rfl (o_nil rfl)) ?_
          refine d_load rfl (o_len rfl ty38 rfl (List.length_map _) (o_nil rfl)) ?_
          refine d_plain (o_sub rfl rfl rfl (by unfold I64; omega) (o_nil rfl)) ?_
          refine d_plain (o_sliceH (n := mv.length) rfl ty38 cl3 rfl rfl (.inl rfl) (congrArg (U.int .i64) (by simp [intsU])) (by simp [intsU]) (o_nil rfl)) ?_
          refine d_plain (o_call rfl (qc) (.lrefl _) (o_nil rfl)) ?_
          refine d_genA [(3, U.box 0 0), (11, accI (y :: p)), (13, accH (u :: v :: hd)), (215, U.tup [U.lst Kd.ro 1 (intsU []), .int .i64 0, .int .i64 32])] [(211, .slot 12), (210, .slot 12)] ([SB.box (Shop.cs s), SB.box [.int .i64 a, .int .i64 b]]) (.cons rfl (.cons rfl (.cons rfl (.cons rfl (.nil rfl))))) rfl rfl fun fr => ?_
          refine d_plain (o_move rfl (o_nil rfl)) ?_
          refine d_plain (o_extract rfl rfl rfl (o_nil rfl)) ?_
          refine d_plain (o_extract rfl rfl rfl (o_nil rfl)) ?_
          refine d_plain (o_extract rfl rfl rfl (o_nil rfl)) ?_
          refine d_plain (o_assign rfl (o_nil rfl)) ?_
          refine d_nil ?_
          refine k_gen [(3, U.box 0 0), (11, accI (y :: p)), (13, accH (u :: v :: hd)), (28, .int .i64 32)] ([SB.box (Shop.cs s), SB.box [.int .i64 a, .int .i64 b]]) (.cons rfl (.cons rfl (.cons rfl (.cons rfl (.nil rfl))))) rfl fun fr => ?_
          refine k_seq (k_region ?_)
          refine o_move rfl ?_
          refine o_neq rfl rfl rfl ?_
          refine o_nil ?_
          refine k_cF rfl rfl ?_
          refine k_skip ?_
          refine k_seq (k_region ?_)
          refine o_loadN rfl rfl rfl sh27 rfl ?_
          refine o_move rfl ?_
          refine o_call rfl (q45) (.lrefl _) ?_
          refine o_move rfl ?_
          refine o_extract rfl rfl rfl ?_
          refine o_extract rfl rfl rfl ?_
          refine o_assign rfl ?_
          refine o_assign rfl ?_
          refine o_nil ?_
          refine k_seq ?_
          refine k_seq (k_region ?_)
          refine o_move rfl ?_
          refine o_neq rfl rfl rfl ?_
          refine o_move rfl ?_
          refine o_gD rfl rfl rfl rfl rfl ?_
          refine o_move rfl ?_
          refine o_gD rfl rfl rfl rfl rfl ?_
          refine o_len rfl ty68 rfl (List.length_map _) ?_
          refine o_gD rfl rfl rfl rfl rfl ?_
          refine o_move rfl ?_
          refine o_gD rfl rfl rfl rfl rfl ?_
          refine o_len rfl ty38 rfl (List.length_map _) ?_
          refine o_gD rfl rfl rfl rfl rfl ?_
          refine o_neq rfl rfl rfl ?_
          refine o_pickF rfl rfl rfl ?_
          refine o_nil ?_
          refine k_cF rfl (by assumption) ?_
          refine k_skip ?_
          refine k_seq ?_
          refine k_seq (k_region ?_)
          refine o_assign rfl ?_
          refine o_nil ?_
          refine k_gen [(3, U.box 0 0), (11, accI (y :: p)), (29, U.lst Kd.ro 1 (List.map rowI R)), (31, .int .i64 0)] ([SB.box (Shop.cs s), SB.box [.int .i64 a, .int .i64 b]]) (.cons rfl (.cons rfl (.cons rfl (.cons rfl (.nil rfl))))) rfl fun fr => ?_
          refine k_block ?_
          refine k_loop (fun kk st => ∃ n : Nat, kk + n = (y :: p).length ∧ st.st = [.box s.cs, .box [.int .i64 a, .int .i64 b]] ∧ Holds st [(3, .box 0 0), (11, accI (y :: p)), (29, .lst .ro 1 (R.map rowI)), (31, .int .i64 n)]) (fun kk st hI => ?_) (y :: p).length _ ?_
          · obtain ⟨n, hkn, hst, hs⟩ := hI
            refine k_gen _ _ hs hst fun fr => ?_
            refine k_seq ?_
            refine k_seq (k_region ?_)
            refine o_move rfl ?_
            refine o_move rfl ?_
            refine o_len rfl ty68 rfl (List.length_map _) ?_
            refine o_lss rfl rfl rfl ?_
            refine o_nil ?_
            refine k_cond rfl (fun h239 => ?_) (fun h239 => ?_)
            · refine k_skip ?_
              refine k_seq ?_
              refine k_block ?_
              have hnl := of_decide_eq_true h239
              obtain ⟨x, hx⟩ : ∃ x, (y :: p)[n]? = some x := ⟨(y :: p)[n], List.getElem?_eq_getElem (by omega)⟩
              have hrow : (R.map rowI)[n]? = some (rowI (gapL s (u :: v :: hd) n)) := by rw [List.getElem?_map, hRg n (by omega)]; rfl
              have hxu : (intsU (y :: p))[n]? = some (.int .i64 x) := by show (List.map _ _)[n]? = _; rw [List.getElem?_map, hx]; rfl
              have hmem := hw.tool n x hx
              have hgl : (gapL s (u :: v :: hd) n).length ≤ 4096 := by
                have : (gapL s (u :: v :: hd) n).length ≤ s.tools.length := ls_len _ _
                omega
              have q42 := ret42 (orc := orc) hi (gapL s (u :: v :: hd) n) x hgl
              rw [show whI (gapL s (u :: v :: hd) n) x = ((gapL s (u :: v :: hd) n).idxOf x : Int) from if_pos hmem] at q42
              have q41 := ret41 (orc := orc) hi (gapL s (u :: v :: hd) n) s.tools.length hgl
              rw [show grB (-1) s.tools.length (gapL s (u :: v :: hd) n) = true from gr_tools s _] at q41
              refine k_seq ?_
              refine k_draw [.plain, .plain, .plain, .read true, .plain, .plain, .plain, .read true, .plain, .plain, .plain, .plain, .plain, .plain, .read true, .plain, .read true, .read true, .plain, .plain, .plain] (by kernel_rfl) (by kernel_rfl) (by kernel_rfl) ?_
              refine d_plain (o_move rfl (o_nil rfl)) ?_
              refine d_plain (o_move rfl (o_nil rfl)) ?_
              refine d_plain (o_idx (u := rowI (gapL s (u :: v :: hd) n)) rfl ty68 rfl rfl (Int.natCast_nonneg _) hrow cl38 (o_nil rfl)) ?_
              refine d_load rfl (o_loadR1 rfl rfl sh38 rfl (o_nil rfl)) ?_
              refine d_plain (o_move rfl (o_nil rfl)) ?_
              refine d_plain (o_move rfl (o_nil rfl)) ?_
              refine d_plain (o_idx (u := .int .i64 x) rfl ty38 rfl rfl (Int.natCast_nonneg _) hxu cl3 (o_nil rfl)) ?_
              refine d_load rfl (o_loadR1 rfl rfl sh3 rfl (o_nil rfl)) ?_
              refine d_plain (o_call rfl (q42) (.lrefl _) (o_nil rfl)) ?_
              refine d_genA [(3, U.box 0 0), (11, accI (y :: p)), (29, U.lst Kd.ro 1 (List.map rowI R)), (31, .int .i64 ↑n), (250, .int .i64 ↑(List.idxOf x (gapL s (u :: v :: hd) n)))] [(246, .slot 11)] ([SB.box (Shop.cs s), SB.box [.int .i64 a, .int .i64 b]]) (.cons rfl (.cons rfl (.cons rfl (.cons rfl (.cons rfl (.nil rfl)))))) rfl rfl fun fr => ?_
              refine d_plain (o_lss rfl rfl rfl (o_nil rfl)) ?_
              refine d_plain (o_move rfl (o_nil rfl)) ?_
              refine d_gD rfl rfl rfl rfl (decide_eq_false (by omega)) ?_
              refine d_plain (o_move rfl (o_nil rfl)) ?_
              refine d_gD rfl rfl rfl rfl (decide_eq_false (by omega)) ?_
              refine d_plain (o_move rfl (o_nil rfl)) ?_
              refine d_gD rfl rfl rfl rfl (decide_eq_false (by omega)) ?_
              refine d_plain (o_idx (u := rowI (gapL s (u :: v :: hd) n)) rfl ty68 rfl rfl (Int.natCast_nonneg _) hrow cl38 (o_nil rfl)) ?_
              refine d_gD rfl rfl rfl rfl (decide_eq_false (by omega)) ?_
              refine d_load rfl (o_loadR1 rfl rfl sh38 rfl (o_nil rfl)) ?_
              refine d_gD rfl rfl rfl rfl (decide_eq_false (by omega)) ?_
              refine d_plain (o_faddr rfl rfl fld27_0 (o_nil rfl)) ?_
              refine d_gD rfl rfl rfl rfl (decide_eq_false (by omega)) ?_
              refine d_load rfl (o_load1 rfl rfl rfl sh22 rfl (o_nil rfl)) ?_
              refine d_gD rfl rfl rfl rfl (decide_eq_false (by omega)) ?_
              refine d_load rfl (o_len rfl ty22 rfl (List.length_map _) (o_nil rfl)) ?_
              refine d_genA [(3, U.box 0 0), (11, accI (y :: p)), (29, U.lst Kd.ro 1 (List.map rowI R)), (31, .int .i64 ↑n), (252, U.bool (Decidable.decide (↑(List.idxOf x (gapL s (u :: v :: hd) n)) < (0 : Int)))), (253, U.lst Kd.ro 1 (List.map rowI R)), (254, .int .i64 ↑n), (255, U.eref [rowI (gapL s (u :: v :: hd) n)] 0), (256, U.lst Kd.ro 1 (intsU (gapL s (u :: v :: hd) n))), (257, U.box 0 0), (258, U.lst Kd.ro 3 (trisU (Shop.tools s))), (259, .int .i64 ↑(List.length (Shop.tools s)))] [(246, .slot 11)] ([SB.box (Shop.cs s), SB.box [.int .i64 a, .int .i64 b]]) (.cons rfl (.cons rfl (.cons rfl (.cons rfl (.cons rfl (.cons rfl (.cons rfl (.cons rfl (.cons rfl (.cons rfl (.cons rfl (.cons rfl (.nil rfl))))))))))))) rfl rfl fun fr => ?_
              refine d_gD rfl rfl rfl rfl (decide_eq_false (by omega)) ?_
              refine d_genA [(3, U.box 0 0), (11, accI (y :: p)), (29, U.lst Kd.ro 1 (List.map rowI R)), (31, .int .i64 ↑n), (252, U.bool (Decidable.decide (↑(List.idxOf x (gapL s (u :: v :: hd) n)) < (0 : Int)))), (253, U.lst Kd.ro 1 (List.map rowI R)), (254, .int .i64 ↑n), (255, U.eref [rowI (gapL s (u :: v :: hd) n)] 0), (256, U.lst Kd.ro 1 (intsU (gapL s (u :: v :: hd) n))), (257, U.box 0 0), (258, U.lst Kd.ro 3 (trisU (Shop.tools s))), (259, .int .i64 ↑(List.length (Shop.tools s)))] [(246, .slot 11)] ([SB.box (Shop.cs s), SB.box [.int .i64 a, .int .i64 b]]) (.cons rfl (.cons rfl (.cons rfl (.cons rfl (.cons rfl (.cons rfl (.cons rfl (.cons rfl (.cons rfl (.cons rfl (.cons rfl (.cons rfl (.nil rfl))))))))))))) rfl rfl fun fr => ?_
              refine d_plain (o_call rfl (q41) (.lrefl _) (o_nil rfl)) ?_
              refine d_gD rfl rfl rfl rfl (decide_eq_false (by omega)) ?_
              refine d_plain (o_not rfl rfl (o_nil rfl)) ?_
              refine d_plain (o_pickF rfl rfl rfl (o_nil rfl)) ?_
              refine d_nil ?_
              refine k_gen [(3, U.box 0 0), (11, accI (y :: p)), (29, U.lst Kd.ro 1 (List.map rowI R)), (31, .int .i64 ↑n), (253, U.lst Kd.ro 1 (List.map rowI R)), (254, .int .i64 ↑n), (255, U.eref [rowI (gapL s (u :: v :: hd) n)] 0), (256, U.lst Kd.ro 1 (intsU (gapL s (u :: v :: hd) n))), (257, U.box 0 0), (258, U.lst Kd.ro 3 (trisU (Shop.tools s))), (259, .int .i64 ↑(List.length (Shop.tools s))), (260, U.bool Bool.true), (261, U.bool !Bool.true), (262, U.bool !Bool.true)] ([SB.box (Shop.cs s), SB.box [.int .i64 a, .int .i64 b]]) (.cons rfl (.cons rfl (.cons rfl (.cons rfl (.cons rfl (.cons rfl (.cons rfl (.cons rfl (.cons rfl (.cons rfl (.cons rfl (.cons rfl (.cons rfl (.cons rfl (.nil rfl))))))))))))))) rfl fun fr => ?_
              refine k_cF rfl rfl ?_
              refine k_skip ?_
              refine k_region ?_
              refine o_move rfl ?_
              refine o_add rfl rfl rfl (by unfold I64; omega) ?_
              refine o_assign rfl ?_
              refine o_nil ?_
              exact ⟨kk - 1, by omega, n + 1, by omega, rfl, .cons rfl (.cons rfl (.cons rfl (.cons rfl (.nil rfl))))⟩
            · refine k_exit ?_
              refine k_seq (k_region ?_)
              refine o_call rfl (r20) (.lrefl _) ?_
              refine o_assign rfl ?_
              refine o_nil ?_
              refine k_ret ?_
              refine ⟨.inr rfl, _, .cons _ _ _ _ (.tmp 6) .nil, ?_⟩
              exact .refl _
          · exact ⟨0, rfl, rfl, .cons rfl (.cons rfl (.cons rfl (.cons rfl (.nil rfl))))⟩
      | false =>
        obtain ⟨j, t, hj, hqt, hnext⟩ := way_less hk hw.way hf
        have hj2 : c1 = (j : Int) := by rw [hcc] at hj; exact hj
        subst hj2
        have htb := hk.tools t (List.mem_of_getElem? hqt)
        have hjl := (List.getElem?_eq_some_iff.1 hqt).1
        have q34 := ret34 (orc := orc) hi j 0 ((s.tools.length : Int) - 1)
        rw [decide_eq_true (by omega : (0 : Int) ≤ (j : Int)), decide_eq_true (by omega : (j : Int) ≤ (s.tools.length : Int) - 1)] at q34
        have q37 := ret37 (orc := orc) hi bs p.length
        have q36 := ret36 (orc := orc) hi t.a t.b (nthI bs p.length) (by omega)
        have hdb := draw_b (a := t.a) (b := t.b) (nthI bs p.length) htb.2.1
        generalize drawI t.a t.b (nthI bs p.length) = d at q36 hdb
        have hwn := went_next hk hw hf hj hqt hdb.1 hdb.2 (hnext d hdb.1 hdb.2)
        have hnm := hwn.way.2.1
        have a1 := accI_snoc (j : Int) p
        have a2 := accI_snoc d mv
        cases p with
        | nil =>
          obtain rfl : mv = [] := List.eq_nil_of_length_eq_zero hlm
          obtain ⟨x, rfl⟩ : ∃ x, hd = [x] := by match hd, hlh with | [x], _ => exact ⟨x, rfl⟩
          refine k_seq ?_
          refine k_seq (k_region ?_)
          refine o_move rfl ?_
          refine o_len rfl ty38 rfl rfl ?_
          refine o_leq rfl rfl rfl ?_
          refine o_nil ?_
          refine k_cT rfl rfl ?_
          refine k_skip ?_
          refine k_block ?_
          refine k_seq (k_region ?_)
          refine o_loadN rfl rfl rfl sh27 rfl ?_
          refine o_move rfl ?_
          refine o_move rfl ?_
          refine o_call rfl (q14) (.lrefl _) ?_
          refine o_move rfl ?_
          refine o_extract rfl rfl rfl ?_
          refine o_extract rfl rfl rfl ?_
          refine o_extract rfl rfl rfl ?_
          refine o_assign rfl ?_
          refine o_assign rfl ?_
          refine o_assign rfl ?_
          refine o_nil ?_
          refine k_gen [(2, U.lst Kd.ro 1 (intsU bs)), (3, U.box 0 0), (7, .int .i64 ↑i), (8, .int .i64 o), (9, .int .i64 m), (10, .int .i64 off), (11, accI []), (12, accI []), (13, accH [x]), (14, .int .i64 ↑j), (16, .int .i64 0)] ([SB.box (Shop.cs s), SB.box [.int .i64 a, .int .i64 b]]) (.cons rfl (.cons rfl (.cons rfl (.cons rfl (.cons rfl (.cons rfl (.cons rfl (.cons rfl (.cons rfl (.cons rfl (.cons rfl (.nil rfl)))))))))))) rfl fun fr => ?_
          refine k_seq ?_
          refine k_seq (k_region ?_)
          refine o_move rfl ?_
          refine o_neq rfl rfl rfl ?_
          refine o_nil ?_
          refine k_cF rfl rfl ?_
          refine k_skip ?_
          refine k_seq ?_
          refine k_seq (k_region ?_)
          refine o_move rfl ?_
          refine o_eql rfl rfl rfl ?_
          refine o_nil ?_
          refine k_cF rfl (decide_eq_false (by omega)) ?_
          refine k_skip ?_
          refine k_seq ?_
          refine k_seq (k_region ?_)
          refine o_move rfl ?_
          refine o_faddr rfl rfl fld27_0 ?_
          refine o_load1 rfl rfl rfl sh22 rfl ?_
          refine o_len rfl ty22 rfl (List.length_map _) ?_
          refine o_sub rfl rfl rfl (by unfold I64; omega) ?_
          refine o_call rfl (q34) (.lrefl _) ?_
          refine o_not rfl rfl ?_
          refine o_nil ?_
          refine k_gen [(2, U.lst Kd.ro 1 (intsU bs)), (3, U.box 0 0), (7, .int .i64 ↑i), (8, .int .i64 o), (9, .int .i64 m), (10, .int .i64 off), (11, accI []), (12, accI []), (13, accH [x]), (14, .int .i64 ↑j), (111, U.bool !(Bool.true && Bool.true))] ([SB.box (Shop.cs s), SB.box [.int .i64 a, .int .i64 b]]) (.cons rfl (.cons rfl (.cons rfl (.cons rfl (.cons rfl (.cons rfl (.cons rfl (.cons rfl (.cons rfl (.cons rfl (.cons rfl (.nil rfl)))))))))))) rfl fun fr => ?_
          refine k_cF rfl rfl ?_
          refine k_skip ?_
          refine k_seq ?_
          refine k_draw [.plain, .read true, .plain, .plain, .plain, .read true, .plain, .plain, .read true, .read false, .plain, .plain] (by kernel_rfl) (by kernel_rfl) (by kernel_rfl) ?_
          refine d_plain (o_faddr rfl rfl fld27_0 (o_nil rfl)) ?_
          refine d_load rfl (o_load1 rfl rfl rfl sh22 rfl (o_nil rfl)) ?_
          refine d_plain (o_move rfl (o_nil rfl)) ?_
          refine d_plain (o_idx (u := (t).u) rfl ty22 rfl rfl (Int.natCast_nonneg _) (by simp [hqt]) cl52 (o_nil rfl)) ?_
          refine d_plain (o_faddrR rfl rfl fld52_0 (o_nil rfl)) ?_
          refine d_load rfl (o_loadRN rfl rfl sh24 rfl (o_nil rfl)) ?_
          refine d_plain (o_move rfl (o_nil rfl)) ?_
          refine d_plain (o_move rfl (o_nil rfl)) ?_
          refine d_load rfl (o_len rfl ty38 rfl rfl (o_nil rfl)) ?_
          refine d_callR rfl (q37) (.int _ _) (.lrefl _) ?_
          refine d_plain (o_call rfl (q36) (.lrefl _) (o_nil rfl)) ?_
          refine d_plain (o_assign rfl (o_nil rfl)) ?_
          refine d_nil ?_
          refine k_seq (k_region ?_)
          refine o_move rfl ?_
          refine o_move rfl ?_
          refine o_lit (es := [.int .i64 ↑j]) rfl ty38 ze3 cl3 rfl rfl rfl rfl rfl rfl rfl rfl ?_
          refine o_appendF rfl ap38_38 rfl rfl (by simp) (by simp) (by simp [flatU, cellsU, oneU]) (by simp) ?_
          refine o_move rfl ?_
          refine o_move rfl ?_
          refine o_lit (es := [.int .i64 d]) rfl ty38 ze3 cl3 rfl rfl rfl rfl rfl rfl rfl rfl ?_
          refine o_appendF rfl ap38_38 rfl rfl (by simp) (by simp) (by simp [flatU, cellsU, oneU]) (by simp) ?_
          refine o_assign rfl ?_
          refine o_assign rfl ?_
          refine o_nil ?_
          refine k_gen [(2, U.lst Kd.ro 1 (intsU bs)), (3, U.box 0 0), (7, .int .i64 ↑i), (8, .int .i64 o), (9, .int .i64 m), (10, .int .i64 off), (11, U.lst Kd.own 1 [.int .i64 ↑j]), (12, U.lst Kd.own 1 [.int .i64 d]), (13, accH [x]), (14, .int .i64 ↑j), (20, .int .i64 d)] ([SB.box (Shop.cs s), SB.box [.int .i64 a, .int .i64 b]]) (.cons rfl (.cons rfl (.cons rfl (.cons rfl (.cons rfl (.cons rfl (.cons rfl (.cons rfl (.cons rfl (.cons rfl (.cons rfl (.nil rfl)))))))))))) rfl fun fr => ?_
          refine k_seq ?_
          refine k_draw [.plain, .plain, .plain, .plain, .plain, .plain, .plain, .plain, .plain, .plain, .plain, .plain, .plain] (by kernel_rfl) (by kernel_rfl) (by kernel_rfl) ?_
          refine d_plain (o_move rfl (o_nil rfl)) ?_
          refine d_plain (o_move rfl (o_nil rfl)) ?_
          refine d_plain (o_add rfl rfl rfl (by unfold I64; omega) (o_nil rfl)) ?_
          refine d_plain (o_move rfl (o_nil rfl)) ?_
          refine d_plain (o_faddr rfl rfl fld27_0 (o_nil rfl)) ?_
          refine d_plain (o_load1 rfl rfl rfl sh22 rfl (o_nil rfl)) ?_
          refine d_plain (o_move rfl (o_nil rfl)) ?_
          refine d_plain (o_idx (u := (t).u) rfl ty22 rfl rfl (Int.natCast_nonneg _) (by simp [hqt]) cl52 (o_nil rfl)) ?_
          refine d_plain (o_faddrR rfl rfl fld52_1 (o_nil rfl)) ?_
          refine d_genA [(2, U.lst Kd.ro 1 (intsU bs)), (3, U.box 0 0), (7, .int .i64 ↑i), (10, .int .i64 off), (11, U.lst Kd.own 1 [.int .i64 ↑j]), (12, U.lst Kd.own 1 [.int .i64 d]), (13, accH [x]), (133, .int .i64 (o + d)), (134, .int .i64 m), (139, U.eref [.int .i64 (Tri.a t), .int .i64 (Tri.b t), .int .i64 (Tri.c t)] 2)] [] ([SB.box (Shop.cs s), SB.box [.int .i64 a, .int .i64 b]]) (.cons rfl (.cons rfl (.cons rfl (.cons rfl (.cons rfl (.cons rfl (.cons rfl (.cons rfl (.cons rfl (.cons rfl (.nil rfl))))))))))) rfl rfl fun fr => ?_
          refine d_plain (o_loadR1 rfl rfl sh3 rfl (o_nil rfl)) ?_
          refine d_plain (o_sub rfl rfl rfl (by unfold I64; omega) (o_nil rfl)) ?_
          refine d_plain (o_assign rfl (o_nil rfl)) ?_
          refine d_plain (o_assign rfl (o_nil rfl)) ?_
          refine d_nil ?_
          refine k_gen [(2, U.lst Kd.ro 1 (intsU bs)), (3, U.box 0 0), (7, .int .i64 ↑i), (8, .int .i64 (o + d)), (9, .int .i64 (m - Tri.c t)), (10, .int .i64 off), (11, U.lst Kd.own 1 [.int .i64 ↑j]), (12, U.lst Kd.own 1 [.int .i64 d]), (13, accH [x])] ([SB.box (Shop.cs s), SB.box [.int .i64 a, .int .i64 b]]) (.cons rfl (.cons rfl (.cons rfl (.cons rfl (.cons rfl (.cons rfl (.cons rfl (.cons rfl (.cons rfl (.nil rfl)))))))))) rfl fun fr => ?_
          refine k_region ?_
          refine o_move rfl ?_
          refine o_move rfl ?_
          refine o_lit (es := [.int .i64 (o + d)]) rfl ty38 ze3 cl3 rfl rfl rfl rfl rfl rfl rfl rfl ?_
          refine o_appendF rfl ap38_38 rfl rfl (by simp) (by simp) (by simp [flatU, cellsU, oneU]) (by simp) ?_
          refine o_assign rfl ?_
          refine o_nil ?_
          refine ⟨kk - t.c.toNat, by omega, [] ++ [(j : Int)], [] ++ [d], [x] ++ [o + d], o + d, m - t.c, by omega, hwn, rfl, .cons rfl (.cons rfl (.cons rfl (.cons rfl (.cons rfl (.cons rfl (.cons rfl (.cons rfl (.cons rfl (.nil rfl)))))))))⟩
        | cons y p =>
          obtain ⟨z, mv, rfl⟩ : ∃ z r, mv = z :: r := by match mv, hlm with | z :: r, _ => exact ⟨z, r, rfl⟩
          obtain ⟨u, v, hd, rfl⟩ : ∃ u v r, hd = u :: v :: r := by match hd, hlh with | u :: v :: r, _ => exact ⟨u, v, r, rfl⟩
          have a3 : accH ((u :: v :: hd) ++ [o + d]) = .lst .own 1 (intsU (u :: v :: hd) ++ [.int .i64 (o + d)]) := by
            show U.lst .own 1 (intsU ((u :: v :: hd) ++ [o + d])) = _
            rw [show intsU ((u :: v :: hd) ++ [o + d]) = intsU (u :: v :: hd) ++ [.int .i64 (o + d)] from List.map_append]
          refine k_seq ?_
          refine k_seq (k_region ?_)
          refine o_move rfl ?_
          refine o_len rfl ty38 rfl (List.length_map _) ?_
          refine o_leq rfl rfl rfl ?_
          refine o_nil ?_
          refine k_cT rfl (decide_eq_true (by omega)) ?_
          refine k_skip ?_
          refine k_block ?_
          refine k_seq (k_region ?_)
          refine o_loadN rfl rfl rfl sh27 rfl ?_
          refine o_move rfl ?_
          refine o_move rfl ?_
          refine o_call rfl (q14) (.lrefl _) ?_
          refine o_move rfl ?_
          refine o_extract rfl rfl rfl ?_
          refine o_extract rfl rfl rfl ?_
          refine o_extract rfl rfl rfl ?_
          refine o_assign rfl ?_
          refine o_assign rfl ?_
          refine o_assign rfl ?_
          refine o_nil ?_
          refine k_gen [(2, U.lst Kd.ro 1 (intsU bs)), (3, U.box 0 0), (7, .int .i64 ↑i), (8, .int .i64 o), (9, .int .i64 m), (10, .int .i64 off), (11, accI (y :: p)), (12, accI (z :: mv)), (13, accH (u :: v :: hd)), (14, .int .i64 ↑j), (16, .int .i64 0)] ([SB.box (Shop.cs s), SB.box [.int .i64 a, .int .i64 b]]) (.cons rfl (.cons rfl (.cons rfl (.cons rfl (.cons rfl (.cons rfl (.cons rfl (.cons rfl (.cons rfl (.cons rfl (.cons rfl (.nil rfl)))))))))))) rfl fun fr => ?_
          refine k_seq ?_
          refine k_seq (k_region ?_)
          refine o_move rfl ?_
          refine o_neq rfl rfl rfl ?_
          refine o_nil ?_
          refine k_cF rfl rfl ?_
          refine k_skip ?_
          refine k_seq ?_
          refine k_seq (k_region ?_)
          refine o_move rfl ?_
          refine o_eql rfl rfl rfl ?_
          refine o_nil ?_
          refine k_cF rfl (decide_eq_false (by omega)) ?_
          refine k_skip ?_
          refine k_seq ?_
          refine k_seq (k_region ?_)
          refine o_move rfl ?_
          refine o_faddr rfl rfl fld27_0 ?_
          refine o_load1 rfl rfl rfl sh22 rfl ?_
          refine o_len rfl ty22 rfl (List.length_map _) ?_
          refine o_sub rfl rfl rfl (by unfold I64; omega) ?_
          refine o_call rfl (q34) (.lrefl _) ?_
          refine o_not rfl rfl ?_
          refine o_nil ?_
          refine k_gen [(2, U.lst Kd.ro 1 (intsU bs)), (3, U.box 0 0), (7, .int .i64 ↑i), (8, .int .i64 o), (9, .int .i64 m), (10, .int .i64 off), (11, accI (y :: p)), (12, accI (z :: mv)), (13, accH (u :: v :: hd)), (14, .int .i64 ↑j), (111, U.bool !(Bool.true && Bool.true))] ([SB.box (Shop.cs s), SB.box [.int .i64 a, .int .i64 b]]) (.cons rfl (.cons rfl (.cons rfl (.cons rfl (.cons rfl (.cons rfl (.cons rfl (.cons rfl (.cons rfl (.cons rfl (.cons rfl (.nil rfl)))))))))))) rfl fun fr => ?_
          refine k_cF rfl rfl ?_
          refine k_skip ?_
          refine k_seq ?_
          refine k_draw [.plain, .read true, .plain, .plain, .plain, .read true, .plain, .plain, .read true, .read false, .plain, .plain] (by kernel_rfl) (by kernel_rfl) (by kernel_rfl) ?_
          refine d_plain (o_faddr rfl rfl fld27_0 (o_nil rfl)) ?_
          refine d_load rfl (o_load1 rfl rfl rfl sh22 rfl (o_nil rfl)) ?_
          refine d_plain (o_move rfl (o_nil rfl)) ?_
          refine d_plain (o_idx (u := (t).u) rfl ty22 rfl rfl (Int.natCast_nonneg _) (by simp [hqt]) cl52 (o_nil rfl)) ?_
          refine d_plain (o_faddrR rfl rfl fld52_0 (o_nil rfl)) ?_
          refine d_load rfl (o_loadRN rfl rfl sh24 rfl (o_nil rfl)) ?_
          refine d_plain (o_move rfl (o_nil rfl)) ?_
          refine d_plain (o_move rfl (o_nil rfl)) ?_
          refine d_load rfl (o_len rfl ty38 rfl (List.length_map _) (o_nil rfl)) ?_
          refine d_callR rfl (q37) (.int _ _) (.lrefl _) ?_
          refine d_plain (o_call rfl (q36) (.lrefl _) (o_nil rfl)) ?_
          refine d_plain (o_assign rfl (o_nil rfl)) ?_
          refine d_nil ?_
          refine k_seq (k_region ?_)
          refine o_move rfl ?_
          refine o_move rfl ?_
          refine o_lit (es := [.int .i64 ↑j]) rfl ty38 ze3 cl3 rfl rfl rfl rfl rfl rfl rfl rfl ?_
          refine o_appendS 11 rfl ap38_38 rfl rfl rfl (by simp) (by simp) (by simp [flatU, cellsU, oneU]) (by simp at *; omega) ?_
          refine o_move rfl ?_
          refine o_move rfl ?_
          refine o_lit (es := [.int .i64 d]) rfl ty38 ze3 cl3 rfl rfl rfl rfl rfl rfl rfl rfl ?_
          refine o_appendS 12 rfl ap38_38 rfl rfl rfl (by simp) (by simp) (by simp [flatU, cellsU, oneU]) (by simp at *; omega) ?_
          refine o_assign rfl ?_
          refine o_assign rfl ?_
          refine o_nil ?_
          refine k_gen [(2, U.lst Kd.ro 1 (intsU bs)), (3, U.box 0 0), (7, .int .i64 ↑i), (8, .int .i64 o), (9, .int .i64 m), (10, .int .i64 off), (11, U.lst Kd.own 1 (.int .i64 y :: List.append (List.map (fun n ↦ .int .i64 n) p) [.int .i64 ↑j])), (12, U.lst Kd.own 1 (.int .i64 z :: List.append (List.map (fun n ↦ .int .i64 n) mv) [.int .i64 d])), (13, accH (u :: v :: hd)), (14, .int .i64 ↑j), (20, .int .i64 d)] ([SB.box (Shop.cs s), SB.box [.int .i64 a, .int .i64 b]]) (.cons rfl (.cons rfl (.cons rfl (.cons rfl (.cons rfl (.cons rfl (.cons rfl (.cons rfl (.cons rfl (.cons rfl (.cons rfl (.nil rfl)))))))))))) rfl fun fr => ?_
          refine k_seq ?_
          refine k_draw [.plain, .plain, .plain, .plain, .plain, .plain, .plain, .plain, .plain, .plain, .plain, .plain, .plain] (by kernel_rfl) (by kernel_rfl) (by kernel_rfl) ?_
          refine d_plain (o_move rfl (o_nil rfl)) ?_
          refine d_plain (o_move rfl (o_nil rfl)) ?_
          refine d_plain (o_add rfl rfl rfl (by unfold I64; omega) (o_nil rfl)) ?_
          refine d_plain (o_move rfl (o_nil rfl)) ?_
          refine d_plain (o_faddr rfl rfl fld27_0 (o_nil rfl)) ?_
          refine d_plain (o_load1 rfl rfl rfl sh22 rfl (o_nil rfl)) ?_
          refine d_plain (o_move rfl (o_nil rfl)) ?_
          refine d_plain (o_idx (u := (t).u) rfl ty22 rfl rfl (Int.natCast_nonneg _) (by simp [hqt]) cl52 (o_nil rfl)) ?_
          refine d_plain (o_faddrR rfl rfl fld52_1 (o_nil rfl)) ?_
          refine d_genA [(2, U.lst Kd.ro 1 (intsU bs)), (3, U.box 0 0), (7, .int .i64 ↑i), (10, .int .i64 off), (11, U.lst Kd.own 1 (.int .i64 y :: List.append (List.map (fun n ↦ .int .i64 n) p) [.int .i64 ↑j])), (12, U.lst Kd.own 1 (.int .i64 z :: List.append (List.map (fun n ↦ .int .i64 n) mv) [.int .i64 d])), (13, accH (u :: v :: hd)), (133, .int .i64 (o + d)), (134, .int .i64 m), (139, U.eref [.int .i64 (Tri.a t), .int .i64 (Tri.b t), .int .i64 (Tri.c t)] 2)] [] ([SB.box (Shop.cs s), SB.box [.int .i64 a, .int .i64 b]]) (.cons rfl (.cons rfl (.cons rfl (.cons rfl (.cons rfl (.cons rfl (.cons rfl (.cons rfl (.cons rfl (.cons rfl (.nil rfl))))))))))) rfl rfl fun fr => ?_
          refine d_plain (o_loadR1 rfl rfl sh3 rfl (o_nil rfl)) ?_
          refine d_plain (o_sub rfl rfl rfl (by unfold I64; omega) (o_nil rfl)) ?_
          refine d_plain (o_assign rfl (o_nil rfl)) ?_
          refine d_plain (o_assign rfl (o_nil rfl)) ?_
          refine d_nil ?_
          refine k_gen [(2, U.lst Kd.ro 1 (intsU bs)), (3, U.box 0 0), (7, .int .i64 ↑i), (8, .int .i64 (o + d)), (9, .int .i64 (m - Tri.c t)), (10, .int .i64 off), (11, U.lst Kd.own 1 (.int .i64 y :: List.append (List.map (fun n ↦ .int .i64 n) p) [.int .i64 ↑j])), (12, U.lst Kd.own 1 (.int .i64 z :: List.append (List.map (fun n ↦ .int .i64 n) mv) [.int .i64 d])), (13, accH (u :: v :: hd))] ([SB.box (Shop.cs s), SB.box [.int .i64 a, .int .i64 b]]) (.cons rfl (.cons rfl (.cons rfl (.cons rfl (.cons rfl (.cons rfl (.cons rfl (.cons rfl (.cons rfl (.nil rfl)))))))))) rfl fun fr => ?_
          refine k_region ?_
          refine o_move rfl ?_
          refine o_move rfl ?_
          refine o_lit (es := [.int .i64 (o + d)]) rfl ty38 ze3 cl3 rfl rfl rfl rfl rfl rfl rfl rfl ?_
          refine o_appendS 13 rfl ap38_38 rfl rfl rfl (by simp) (by simp) (by simp [flatU, cellsU, oneU]) (by simp at *; omega) ?_
          refine o_assign rfl ?_
          refine o_nil ?_
          refine ⟨kk - t.c.toNat, by omega, (y :: p) ++ [(j : Int)], (z :: mv) ++ [d], (u :: v :: hd) ++ [o + d], o + d, m - t.c, by omega, hwn, rfl, .cons rfl (.cons rfl (.cons rfl (.cons rfl (.cons rfl (.cons rfl (.cons (by rw [a1]; rfl) (.cons (by rw [a2]; rfl) (.cons (by rw [a3]; rfl) (.nil rfl)))))))))⟩
    · exact ⟨[], [], [off], off, q.c, by omega, went_start hway, rfl, .cons rfl (.cons rfl (.cons rfl (.cons rfl (.cons rfl (.cons rfl (.cons rfl (.cons rfl (.cons rfl (.nil rfl)))))))))⟩
theorem ret13_all {is : FuncId → Bool} {orc : Known} (hi : Off is) (r20 : RetP Try.prog is orc 20 [] (.bool true)) : ∀ us, ShpAs Try.prog [27, 28, 38] us → RetP Try.prog is orc 13 us (.bool true) := by
  intro us h
  cases h with
  | cons _ _ u us h1 h => cases h with
  | cons _ _ v us h2 h => cases h with
  | cons _ _ x us h3 h =>
  cases h
  obtain ⟨fs, hu⟩ := und_struct (P := Try.prog) (t := 27) 3 (by kernel_rfl)
  unfold ShpA at h1 h2 h3
  rw [hu] at h1
  rw [u28] at h2
  rw [u38] at h3
  obtain ⟨cs, rfl, h1⟩ := h1
  obtain ⟨ds, rfl, h2⟩ := h2
  obtain ⟨s, rfl⟩ := shp_shop h1
  obtain ⟨a, b, rfl⟩ := shp_two h2
  obtain ⟨l, h3⟩ := shp_ints h3
  cases h3
  by_cases hv : checkR s.tools s.keys s.flo s.fhi = 0
  · have hk := ok_chk hv
    by_cases hn : s.keys.length = 0
    · exact ret13k hi hk hn a b l r20
    · have h0 : 0 ≤ a % (s.keys.length : Int) := Int.emod_nonneg _ (by omega)
      have h1 : a % (s.keys.length : Int) < s.keys.length := Int.emod_lt_of_pos _ (by omega)
      exact ret13a hi hk a b (i := (a % (s.keys.length : Int)).toNat) (q := s.keys[(a % (s.keys.length : Int)).toNat]) (by omega) (List.getElem?_eq_getElem (by omega)) l r20
  · exact ret13n hi hv a b l r20
end Go.Proofs.Ytdahbimllmapkaa.raspPlayed
