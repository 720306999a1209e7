/- forge's functions, the specification's and the law's, by the logic of trees: what each gives back for all that it may be given. -/
import Derived.Test.YtoldkckmenjknaaGreatVamFewest6
namespace Go.Proofs.YtoldkckmenjknaaGreat.forgeFewest
open Vam
set_option linter.unusedVariables false
set_option linter.unusedSimpArgs false
set_option linter.constructorNameAsVariable false
variable {is : FuncId → Bool} {orc : Known}
noncomputable def b61 : Code := (Tryz.f61.body).getD .skip
theorem body61 : bodyOf Tryz.prog 61 = some (16, b61, [.tmp 2]) := by kernel_rfl
theorem pure61 : pureFn Tryz.prog 61 = true := by kernel_rfl
noncomputable def b35 : Code := (Tryz.f35.body).getD .skip
theorem body35 : bodyOf Tryz.prog 35 = some (25, b35, [.cell 4 57]) := by kernel_rfl
theorem pure35 : pureFn Tryz.prog 35 = true := by kernel_rfl
noncomputable def b36 : Code := (Tryz.f36.body).getD .skip
theorem body36 : bodyOf Tryz.prog 36 = some (8, b36, [.tmp 4]) := by kernel_rfl
theorem pure36 : pureFn Tryz.prog 36 = true := by kernel_rfl
noncomputable def b11 : Code := (Tryz.f11.body).getD .skip
theorem body11 : bodyOf Tryz.prog 11 = some (31, b11, [.tmp 4, .tmp 5]) := by kernel_rfl
theorem pure11 : pureFn Tryz.prog 11 = true := by kernel_rfl
def tknP (q : Qd) : Nat → Int
  | 0 => 0
  | i + 1 => tknP q i + if 0 < q.at i then 1 else 0
theorem tknP_b (q : Qd) (i : Nat) : 0 ≤ tknP q i ∧ tknP q i ≤ i := by
  induction i with
  | zero => exact ⟨Int.le_refl _, Int.le_refl _⟩
  | succ i ih => unfold tknP; split <;> omega
def tkn (q : Qd) : Int := tknP q 4
theorem dat_qd (q : Qd) (k : Nat) : Dat (k + 2) q.u := .agg _ _ fun c hc => by
  simp only [List.mem_cons, List.not_mem_nil, or_false] at hc
  rcases hc with rfl | rfl | rfl | rfl <;> exact .int _ _ _
set_option maxHeartbeats 4000000 in
theorem ret61 (hi : Off is) (q : Qd) : RetP Tryz.prog is orc 61 [q.u] (.int .i64 (tkn q)) := by
  refine ret_of body61 pure61 (hi 61 (by decide)) rfl rfl (dat_l1 (dat_qd q 6)) (.inl (.int _ _ _)) ?_
  refine k_seq (k_region ?_)
  refine o_box rfl rfl ?_
  refine o_assign rfl ?_
  refine o_nil ?_
  refine k_gen [(1, U.box 0 0)] ([SB.box [.int .i64 (Qd.a q), .int .i64 (Qd.b q), .int .i64 (Qd.c q), .int .i64 (Qd.d q)]]) (.cons rfl (.nil rfl)) rfl fun fr => ?_
  refine k_seq (k_region ?_)
  refine o_assign rfl ?_
  refine o_nil ?_
  refine k_seq ?_
  refine k_seq (k_region ?_)
  refine o_loadN rfl rfl rfl sh57 rfl ?_
  refine o_move rfl ?_
  refine o_nil ?_
  refine k_block ?_
  refine k_loop (fun k st => ∃ (i : Nat), k + i = 4 ∧ st.st = [.box q.cs] ∧ Holds st [(3, .int .i64 (tknP q i)), (6, q.u), (7, .int .i64 i)]) (fun k st hI => ?_) 4 _ ?_
  · obtain ⟨i, hki, hst, hs⟩ := hI
    have hb := tknP_b q i
    by_cases hi4 : i < 4
    · have hqa : q.cs[(i : Int).toNat * 1]? = some (.int .i64 (q.at i)) := by rw [Int.toNat_natCast, Nat.mul_one]; exact qd_at q hi4
      refine k_gen _ _ hs hst fun fr => ?_
      by_cases hp : 0 < q.at i
      · refine k_seq (k_region ?_)
        refine o_lss rfl rfl rfl ?_
        refine o_nil ?_
        refine k_seq ?_
        refine k_cT rfl (decide_eq_true (by omega)) ?_
        refine k_skip ?_
        refine k_seq ?_
        refine k_block ?_
        refine k_seq (k_region ?_)
        refine o_idx1 rfl ty57 rfl rfl (Int.natCast_nonneg i) (by omega) cl3 sh3 hqa ?_
        refine o_assign rfl ?_
        refine o_nil ?_
        refine k_seq (k_region ?_)
        refine o_move rfl ?_
        refine o_gtr rfl rfl rfl ?_
        refine o_nil ?_
        refine k_cT rfl (decide_eq_true (by omega)) ?_
        refine k_region ?_
        refine o_move rfl ?_
        refine o_add rfl rfl rfl (by unfold I64; omega) ?_
        refine o_assign rfl ?_
        refine o_nil ?_
        refine k_region ?_
        refine o_add rfl rfl rfl (by unfold I64; omega) ?_
        refine o_move rfl ?_
        refine o_nil ?_
        refine ⟨k - 1, by omega, i + 1, by omega, rfl, .cons (by show U.int .i64 (tknP q i + 1) = .int .i64 (tknP q i + if 0 < q.at i then 1 else 0); rw [if_pos hp]) (.cons rfl (.cons rfl (.nil rfl)))⟩
      · refine k_seq (k_region ?_)
        refine o_lss rfl rfl rfl ?_
        refine o_nil ?_
        refine k_seq ?_
        refine k_cT rfl (decide_eq_true (by omega)) ?_
        refine k_skip ?_
        refine k_seq ?_
        refine k_block ?_
        refine k_seq (k_region ?_)
        refine o_idx1 rfl ty57 rfl rfl (Int.natCast_nonneg i) (by omega) cl3 sh3 hqa ?_
        refine o_assign rfl ?_
        refine o_nil ?_
        refine k_seq (k_region ?_)
        refine o_move rfl ?_
        refine o_gtr rfl rfl rfl ?_
        refine o_nil ?_
        refine k_cF rfl (decide_eq_false (by omega)) ?_
        refine k_skip ?_
        refine k_region ?_
        refine o_add rfl rfl rfl (by unfold I64; omega) ?_
        refine o_move rfl ?_
        refine o_nil ?_
        refine ⟨k - 1, by omega, i + 1, by omega, rfl, .cons (by show U.int .i64 (tknP q i) = .int .i64 (tknP q i + if 0 < q.at i then 1 else 0); rw [if_neg hp, Int.add_zero]) (.cons rfl (.cons rfl (.nil rfl)))⟩
    · have hi4 : i = 4 := by omega
      subst hi4
      refine k_gen _ _ hs hst fun fr => ?_
      refine k_seq (k_region ?_)
      refine o_lss rfl rfl rfl ?_
      refine o_nil ?_
      refine k_seq ?_
      refine k_cF rfl rfl ?_
      refine k_exit ?_
      refine k_seq (k_region ?_)
      refine o_move rfl ?_
      refine o_assign rfl ?_
      refine o_nil ?_
      refine k_ret ?_
      refine ⟨.inr rfl, _, .cons _ _ _ _ (.tmp 2) .nil, ?_⟩
      exact .refl _
  · exact ⟨0, by omega, rfl, .cons rfl (.cons rfl (.cons rfl (.nil rfl)))⟩
def stepQ (best m : Qd) : Qd := if eqQ best zQ = true then m else if tkn m < tkn best then m else best
def bstQ (l : List Qd) : Qd := l.foldl stepQ zQ
theorem bst_snoc (l : List Qd) (q : Qd) : bstQ (l ++ [q]) = stepQ (bstQ l) q := by
  unfold bstQ; rw [List.foldl_append]; rfl
noncomputable def rg45 : Code × Code := match b35 with
  | .seq _ (.seq _ (.seq (.seq _ (.block _ (.rangeFunc _ _ a b))) _)) => (a, b)
  | _ => (.skip, .skip)
noncomputable def lp45 : Lp := ⟨fun i => dg (lookU [(2, .box 0 0), (4, .box 1 0), (5, .box 2 0), (11, .fn 77 [] [.box 4 0, .box 5 0, .box 3 0])] i .junk), [12], rg45.1, rg45.2⟩
noncomputable def X45 (b : Bk) (many : Int) (best : Qd) (q : Lq) : List SB := [.box (bkN b b.lots.length), .box zQ.cs, .box best.cs, .box (bkN b b.lots.length), .box (stoQ b).cs, .box [.int .i64 many], .loop q lp45]
set_option maxHeartbeats 8000000 in
theorem yield45 (hi : Off is) (b : Bk) (many : Int) (best q : Qd) (e : List SB) :
    WpY Tryz.prog is orc 6 lp45 [q.u] (X45 b many best .ready ++ e) fun u st' => u = .bool true ∧ ∃ e', Ext e' ∧ st' = X45 b many (stepQ best q) .ready ++ (e ++ e') := by
  show Wp _ _ _ rg45.1 _ _
  show Wp _ _ _ _ ⟨_, [], X45 b many best .ready ++ e⟩ _
  have hl : (X45 b many best .ready ++ e).length = 7 + e.length := by simp [X45]; omega
  have hst0 : ∀ x y : SB, ((X45 b many best .ready ++ e) ++ [x]).set (X45 b many best .ready ++ e).length y = X45 b many best .ready ++ (e ++ [y]) := fun x y => by rw [set_end, List.append_assoc]
  refine k_region ?_
  refine o_alloc rfl ze57 ?_
  refine o_storeN rfl (at_new _ _) sh57 rfl rfl rfl rfl rfl ?_
  refine o_nil ?_
  refine ⟨rfl, ?_, ?_⟩
  · show (((X45 b many best .ready ++ e) ++ [_]).set (X45 b many best .ready ++ e).length (SB.box _))[6]? = _
    rw [hst0]; rfl
  refine k_gen [(4, .box 1 0), (5, .box 2 0), (6, .box (7 + e.length) 0)] (X45 b many best .busy ++ (e ++ [.box q.cs])) (.cons rfl (.cons rfl (.cons (by show U.box (X45 b many best .ready ++ e).length 0 = _; rw [hl]) (.nil rfl)))) (by
    show (((X45 b many best .ready ++ e) ++ [_]).set (X45 b many best .ready ++ e).length (SB.box q.cs)).set 6 (.loop .busy lp45) = _
    rw [hst0]; rfl) fun fr => ?_
  have hb6 : (X45 b many best .busy ++ (e ++ [SB.box q.cs]))[7 + e.length]? = some (.box q.cs) := by
    rw [← List.append_assoc, show 7 + e.length = (X45 b many best .busy ++ e).length by simp [X45]; omega]; exact at_new _ _
  show Wp _ _ _ rg45.2 _ _
  refine k_block ?_
  refine k_seq ?_
  refine k_draw [.plain, .plain, .plain, .plain, .read true, .read false, .read true, .plain, .plain, .plain] (by kernel_rfl) (by kernel_rfl) (by kernel_rfl) ?_
  refine d_plain (o_loadN rfl rfl (cs := best.cs) rfl sh57 rfl (o_nil rfl)) ?_
  refine d_plain (o_build (cs := zQ.cs) rfl ze57 pl57 rfl rfl (o_nil rfl)) ?_
  refine d_plain (o_binK rfl rfl rfl rfl rfl (eql_q best zQ) (o_nil rfl)) ?_
  refine d_plain (o_move rfl (o_nil rfl)) ?_
  by_cases hz : eqQ best zQ = true
  · refine d_gS rfl rfl rfl rfl hz ?_
    refine d_gS rfl rfl rfl rfl hz ?_
    refine d_gS rfl rfl rfl rfl hz ?_
    refine d_gS rfl rfl rfl rfl hz ?_
    refine d_gS rfl rfl rfl rfl hz ?_
    refine d_plain (o_pickT rfl rfl hz (o_nil rfl)) ?_
    refine d_nil ?_
    rw [show stepQ best q = q by unfold stepQ; rw [if_pos hz]]
    refine k_cond rfl (fun h1 => ?_) (fun h1 => by cases h1)
    refine k_region ?_
    refine o_loadN rfl rfl (by exact hb6) sh57 rfl ?_
    refine o_storeN rfl (cs := best.cs) rfl sh57 rfl rfl rfl rfl rfl ?_
    refine o_nil ?_
    exact ⟨rfl, rfl, [.box q.cs], Ext.snoc (l := []) .nil (nb_qd q), rfl⟩
  · have hz0 : eqQ best zQ = false := by simpa using hz
    refine d_gD rfl rfl rfl rfl hz0 ?_
    refine d_load rfl (o_loadN rfl rfl (by exact hb6) sh57 rfl (o_nil rfl)) ?_
    refine d_gD rfl rfl rfl rfl hz0 ?_
    refine d_callR rfl (ret61 hi q) (flat_int _) (.lrefl _) ?_
    refine d_gD rfl rfl rfl rfl hz0 ?_
    refine d_load rfl (o_loadN rfl rfl (cs := best.cs) rfl sh57 rfl (o_nil rfl)) ?_
    refine d_gD rfl rfl rfl rfl hz0 ?_
    refine d_plain (o_call rfl (ret61 hi best) (.lrefl _) (o_nil rfl)) ?_
    refine d_gD rfl rfl rfl rfl hz0 ?_
    refine d_plain (o_lss rfl rfl rfl (o_nil rfl)) ?_
    refine d_plain (o_pickF rfl rfl hz0 (o_nil rfl)) ?_
    refine d_nil ?_
    refine k_cond rfl (fun h1 => ?_) (fun h1 => ?_)
    · have h1 : tkn q < tkn best := of_decide_eq_true h1
      rw [show stepQ best q = q by unfold stepQ; rw [if_neg hz, if_pos h1]]
      refine k_region ?_
      refine o_loadN rfl rfl (by exact hb6) sh57 rfl ?_
      refine o_storeN rfl (cs := best.cs) rfl sh57 rfl rfl rfl rfl rfl ?_
      refine o_nil ?_
      exact ⟨rfl, rfl, [.box q.cs], Ext.snoc (l := []) .nil (nb_qd q), rfl⟩
    · have h1 : ¬ tkn q < tkn best := of_decide_eq_false h1
      rw [show stepQ best q = best by unfold stepQ; rw [if_neg hz, if_neg h1]]
      refine k_skip ?_
      exact ⟨rfl, rfl, [.box q.cs], Ext.snoc (l := []) .nil (nb_qd q), rfl⟩
theorem lp45_bd (i : Nat) : Bd 6 (lp45.fr i) := by
  refine lookU_all (p := fun u => Bd 6 (dg u)) ?_ (Bd.junk _) i
  intro x hx
  simp only [List.mem_cons, List.not_mem_nil, or_false] at hx
  rcases hx with rfl | rfl | rfl | rfl
  · exact Bd.box (by omega)
  · exact Bd.box (by omega)
  · exact Bd.box (by omega)
  · refine Bd.fn (fun u hu => by cases hu) fun u hu => ?_
    simp only [List.mem_cons, List.not_mem_nil, or_false] at hu
    rcases hu with rfl | rfl | rfl <;> exact Bd.box (by omega)
theorem bd_X45 (b : Bk) (many : Int) (a : Qd) (q : Lq) : ∀ x ∈ X45 b many a q, BdS 7 x := fun x hx => by
  simp only [X45, List.mem_cons, List.not_mem_nil, or_false] at hx
  rcases hx with rfl | rfl | rfl | rfl | rfl | rfl | rfl
  · exact bd_bkN b _ 7
  · exact bd_qd _ 7
  · exact bd_qd a 7
  · exact bd_bkN b _ 7
  · exact bd_qd _ 7
  · intro c hc; rcases List.mem_singleton.1 hc with rfl; exact Bd.int _ _ _
  · exact fun i => Bd.mono (lp45_bd i) (by omega)
theorem seen45 (b : Bk) (many : Int) : SeenR b b.lots.length (stoQ b) many 7 6 4 5 3 lp45 (fun _ => false) (fun l => X45 b many (bstQ l) .ready) (X45 b many zQ .ready) :=
  ⟨fun _ => rfl, rfl, fun l => bd_X45 b many _ _, bd_X45 b many _ _, fun _ => rfl, fun _ => rfl, fun _ => rfl, fun _ => rfl, fun i => dg_noOwn _, ⟨12, rfl, rfl⟩, fun is orc hi l q e _ => by
    refine WpY.mono (yield45 hi b many (bstQ l) q e) fun u st' hu => ?_
    rw [bst_snoc]
    exact .inl ⟨rfl, hu⟩⟩
def castQ (b : Bk) (many : Int) : Qd := bstQ (rights b (stoQ b) many)
theorem no_any {α : Type} (l : List α) : l.any (fun _ => false) = false := by induction l <;> simp
set_option maxHeartbeats 8000000 in
theorem ret35 (hi : Off is) {b : Bk} (hb : Ok b) (many : Int) (hm : 0 ≤ many ∧ many ≤ 24) : RetP Tryz.prog is orc 35 [bkF b, .int .i64 many] (castQ b many).u := by
  refine ret_of body35 pure35 (hi 35 (by decide)) rfl rfl (dat_l2 (dat_bkF b 5) (.int _ _ _)) (.inl (dat_qd _ 6)) ?_
  refine k_seq ?_
  refine k_region ?_
  refine o_box rfl rfl ?_
  refine o_alloc rfl ze57 ?_
  refine o_nil ?_
  refine k_seq ?_
  refine k_region ?_
  refine o_alloc rfl ze57 ?_
  refine o_nil ?_
  refine k_seq ?_
  refine k_seq ?_
  refine k_region ?_
  refine o_loadN rfl rfl rfl sh60 rfl ?_
  refine o_faddr rfl rfl fld60_1 ?_
  refine o_loadN rfl rfl rfl sh57 rfl ?_
  refine o_move rfl ?_
  refine o_callW rfl (wpc56 b b.lots.length (stoQ b) many _) (.lrefl _) (fun u st1 hM => ?_)
  obtain ⟨rfl, rfl⟩ := hM
  refine o_nil ?_
  refine k_block ?_
  refine k_forget [(2, .box 0 0), (4, .box 1 0), (5, .box 2 0), (11, .fn 77 [] [.box 4 0, .box 5 0, .box 3 0])] [.box (bkN b b.lots.length), .box zQ.cs, .box zQ.cs, .box (bkN b b.lots.length), .box (stoQ b).cs, .box [.int .i64 many]] (.cons rfl (.cons rfl (.cons rfl (.cons rfl (.nil rfl))))) rfl ?_
  refine k_range (g := 77) rfl ((wpc77 hi hb (sto_ok hb) hm (seen45 b many)).mono fun _ st' hst => ?_)
  rw [no_any] at hst
  rcases hst with ⟨_, rfl⟩ | ⟨h, _⟩
  · refine ⟨.ready, rfl, ?_, ?_⟩
    · show ∀ y ∈ [SB.box (bkN b b.lots.length), .box zQ.cs, .box (castQ b many).cs, .box (bkN b b.lots.length), .box (stoQ b).cs, .box [.int .i64 many]], BdS 6 y
      intro y hy
      simp only [List.mem_cons, List.not_mem_nil, or_false] at hy
      rcases hy with rfl | rfl | rfl | rfl | rfl | rfl
      · exact bd_bkN b _ 6
      · exact bd_qd _ 6
      · exact bd_qd _ 6
      · exact bd_bkN b _ 6
      · exact bd_qd _ 6
      · intro c hc; rcases List.mem_singleton.1 hc with rfl; exact Bd.int _ _ _
    · refine k_gen [(4, .box 1 0), (5, .box 2 0)] [.box (bkN b b.lots.length), .box zQ.cs, .box (castQ b many).cs, .box (bkN b b.lots.length), .box (stoQ b).cs, .box [.int .i64 many]] (.cons rfl (.cons rfl (.nil rfl))) rfl fun fr => ?_
      refine k_seq ?_
      refine k_region ?_
      refine o_loadN rfl rfl (cs := (castQ b many).cs) rfl sh57 rfl ?_
      refine o_storeN rfl (cs := zQ.cs) rfl sh57 rfl rfl rfl rfl rfl ?_
      refine o_nil ?_
      refine k_ret ?_
      refine ⟨.inr rfl, _, .cons _ _ _ _ (.cellN 4 57 _ _ _ _ rfl rfl sh57 rfl) .nil, ?_⟩
      exact .refl _
  · cases h
def lstQ (q : Qd) (n : Nat) : List Int := [q.a, q.b, q.c, q.d].take n
set_option maxHeartbeats 4000000 in
theorem ret36 (hi : Off is) (q : Qd) (n : Nat) (hn : n ≤ 4) : RetP Tryz.prog is orc 36 [q.u, .int .i64 n] (.lst .ro 1 (intsU (lstQ q n))) := by
  refine ret_of body36 pure36 (hi 36 (by decide)) rfl rfl (dat_l2 (dat_qd q 6) (.int _ _ _)) (.inl (dat_ints 6 .ro (fun h => by cases h) 1 _)) ?_
  refine k_seq ?_
  refine k_region ?_
  refine o_box rfl rfl ?_
  refine o_assign rfl ?_
  refine o_nil ?_
  refine k_seq ?_
  refine k_region ?_
  refine o_move rfl ?_
  refine o_move rfl ?_
  have e : n = 0 ∨ n = 1 ∨ n = 2 ∨ n = 3 ∨ n = 4 := by omega
  refine o_sliceA (es := intsU (lstQ q n)) (cs := q.cs) rfl ty57 cl3 rfl rfl rfl rfl (l1 := 0) (h1 := n) (m1 := n) ⟨_, rfl⟩ ⟨_, rfl⟩ rfl (.inr (by simp)) (by omega) (by omega) (by omega) (by rcases e with rfl | rfl | rfl | rfl | rfl <;> rfl) (by simp [cellsU]) (by rcases e with rfl | rfl | rfl | rfl | rfl <;> rfl) ?_
  refine o_assign rfl ?_
  refine o_nil ?_
  refine k_ret ?_
  refine ⟨.inr rfl, _, .cons _ _ _ _ (.tmp 4) .nil, ?_⟩
  exact .refl _
end Go.Proofs.YtoldkckmenjknaaGreat.forgeFewest
