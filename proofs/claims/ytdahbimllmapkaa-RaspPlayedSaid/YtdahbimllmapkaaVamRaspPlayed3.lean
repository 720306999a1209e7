/- rasp's functions and the law's, by the logic of trees: what each gives back for all that it may be given. -/
import Derived.Test.YtdahbimllmapkaaVamRaspPlayed2
namespace Go.Proofs.Ytdahbimllmapkaa.raspPlayed
open Vam
set_option linter.unusedVariables false
set_option linter.unusedSimpArgs false
set_option linter.constructorNameAsVariable false
variable {is : FuncId → Bool} {orc : Known}
noncomputable def b25 : Code := (Try.f25.body).getD .skip
theorem body25 : bodyOf Try.prog 25 = some (31, b25, [.tmp 4]) := by kernel_rfl
theorem pure25 : pureFn Try.prog 25 = true := by kernel_rfl
theorem take_eq {l m : List Int} {i : Nat} {x y : Int} (hx : l[i]? = some x) (hy : m[i]? = some y) (h : l.take i = m.take i) : l.take (i + 1) = m.take (i + 1) ↔ x = y := by
  rw [List.take_add_one, List.take_add_one, hx, hy, h]; simp
set_option maxHeartbeats 4000000 in
theorem ret25 (hi : Off is) (l m : List Int) (hll : l.length ≤ 4096) : RetP Try.prog is orc 25 [.lst .ro 1 (intsU l), .lst .ro 1 (intsU m)] (.bool (decide (l = m))) := by
  refine ret_of body25 pure25 (hi 25 (by decide)) rfl rfl (dat_l2 (dat_ints 6 .ro (fun h => by cases h) 1 l) (dat_ints 6 .ro (fun h => by cases h) 1 m)) (.inl (.bool _ _)) ?_
  refine k_seq (k_region ?_)
  refine o_assign rfl ?_
  refine o_nil ?_
  refine k_seq (k_region ?_)
  refine o_move rfl ?_
  refine o_len rfl ty38 rfl (List.length_map _) ?_
  refine o_move rfl ?_
  refine o_len rfl ty38 rfl (List.length_map _) ?_
  refine o_eql rfl rfl rfl ?_
  refine o_assign rfl ?_
  refine o_nil ?_
  refine k_seq ?_
  refine k_seq (k_region ?_)
  refine o_assign rfl ?_
  refine o_nil ?_
  refine k_block ?_
  refine k_loop (fun k st => ∃ (i : Nat) (b : Bool), k + i = l.length ∧ (b = true → l.length = m.length ∧ l.take i = m.take i) ∧ (b = false → l ≠ m) ∧ st.st = [] ∧ Holds st [(0, .lst .ro 1 (intsU l)), (1, .lst .ro 1 (intsU m)), (5, .bool b), (6, .int .i64 i)]) (fun k st hI => ?_) l.length _ ?_
  · obtain ⟨i, b, hki, hb1, hb2, hst, hs⟩ := hI
    refine k_gen _ _ hs hst fun fr => ?_
    cases b with
    | true =>
      obtain ⟨hlen, htk⟩ := hb1 rfl
      refine k_seq ?_
      refine k_seq (k_region ?_)
      refine o_move rfl ?_
      refine o_move rfl ?_
      refine o_gD rfl rfl rfl rfl rfl ?_
      refine o_move rfl ?_
      refine o_gD rfl rfl rfl rfl rfl ?_
      refine o_move rfl ?_
      refine o_gD rfl rfl rfl rfl rfl ?_
      refine o_len rfl ty38 rfl (List.length_map _) ?_
      refine o_gD rfl rfl rfl rfl rfl ?_
      refine o_lss rfl rfl rfl ?_
      refine o_pickT rfl rfl rfl ?_
      refine o_nil ?_
      refine k_cond rfl (fun h18 => ?_) (fun h18 => ?_)
      · refine k_skip ?_
        refine k_seq ?_
        refine k_block ?_
        refine k_draw [.plain, .plain, .plain, .read true, .plain, .plain, .plain, .read true, .plain, .plain] (by kernel_rfl) (by kernel_rfl) (by kernel_rfl) ?_
        refine d_plain (o_move rfl (o_nil rfl)) ?_
        refine d_plain (o_move rfl (o_nil rfl)) ?_
        have hil : i < l.length := by have := of_decide_eq_true h18; omega
        obtain ⟨x, hx⟩ : ∃ x, l[i]? = some x := ⟨l[i], List.getElem?_eq_getElem hil⟩
        obtain ⟨y, hy⟩ : ∃ y, m[i]? = some y := ⟨m[i], List.getElem?_eq_getElem (by omega)⟩
        refine d_plain (o_idx (u := .int .i64 x) rfl ty38 rfl rfl (Int.natCast_nonneg _) (by simp [hx]) cl3 (o_nil rfl)) ?_
        refine d_load rfl (o_loadR1 rfl rfl sh3 rfl (o_nil rfl)) ?_
        refine d_plain (o_move rfl (o_nil rfl)) ?_
        refine d_plain (o_move rfl (o_nil rfl)) ?_
        refine d_plain (o_idx (u := .int .i64 y) rfl ty38 rfl rfl (Int.natCast_nonneg _) (by simp [hy]) cl3 (o_nil rfl)) ?_
        refine d_load rfl (o_loadR1 rfl rfl sh3 rfl (o_nil rfl)) ?_
        refine d_plain (o_eql rfl rfl rfl (o_nil rfl)) ?_
        refine d_plain (o_assign rfl (o_nil rfl)) ?_
        refine d_nil ?_
        refine k_region ?_
        refine o_move rfl ?_
        refine o_add rfl rfl rfl (by unfold I64; omega) ?_
        refine o_assign rfl ?_
        refine o_nil ?_
        refine ⟨k - 1, by omega, i + 1, _, by omega, fun h => ⟨hlen, (take_eq hx hy htk).2 (of_decide_eq_true h)⟩, fun h hlm => ?_, rfl, .cons rfl (.cons rfl (.cons rfl (.cons rfl (.nil rfl))))⟩
        subst hlm; rw [hx] at hy; cases hy; exact of_decide_eq_false h rfl
      · refine k_exit ?_
        refine k_seq (k_region ?_)
        refine o_move rfl ?_
        refine o_assign rfl ?_
        refine o_nil ?_
        refine k_ret ?_
        refine ⟨.inr rfl, _, .cons _ _ _ _ (.tmp 4) .nil, ?_⟩
        have hil : i = l.length := by have := of_decide_eq_false h18; omega
        have hlm : l = m := by rw [← List.take_length (l := l), ← hil, htk, hil, hlen, List.take_length]
        rw [decide_eq_true hlm]; exact .refl _
    | false =>
      refine k_seq ?_
      refine k_seq (k_region ?_)
      refine o_move rfl ?_
      refine o_move rfl ?_
      refine o_gS rfl rfl rfl rfl rfl ?_
      refine o_gS rfl rfl rfl rfl rfl ?_
      refine o_gS rfl rfl rfl rfl rfl ?_
      refine o_gS rfl rfl rfl rfl rfl ?_
      refine o_pickF rfl rfl rfl ?_
      refine o_nil ?_
      refine k_cF rfl rfl ?_
      refine k_exit ?_
      refine k_seq (k_region ?_)
      refine o_move rfl ?_
      refine o_assign rfl ?_
      refine o_nil ?_
      refine k_ret ?_
      refine ⟨.inr rfl, _, .cons _ _ _ _ (.tmp 4) .nil, ?_⟩
      rw [decide_eq_false (hb2 rfl)]; exact .refl _
  · exact ⟨0, _, by omega, fun h => ⟨by have := of_decide_eq_true h; omega, by simp⟩, fun h hlm => of_decide_eq_false h (by rw [hlm]), rfl, .cons rfl (.cons rfl (.cons rfl (.cons rfl (.nil rfl))))⟩
noncomputable def b59 : Code := (Try.f59.body).getD .skip
theorem body59 : bodyOf Try.prog 59 = some (14, b59, [.tmp 4]) := by kernel_rfl
theorem pure59 : pureFn Try.prog 59 = true := by kernel_rfl
noncomputable def b21 : Code := (Try.f21.body).getD .skip
theorem body21 : bodyOf Try.prog 21 = some (25, b21, [.tmp 4, .tmp 5]) := by kernel_rfl
theorem pure21 : pureFn Try.prog 21 = true := by kernel_rfl
noncomputable def b41 : Code := (Try.f41.body).getD .skip
theorem body41 : bodyOf Try.prog 41 = some (31, b41, [.tmp 4]) := by kernel_rfl
theorem pure41 : pureFn Try.prog 41 = true := by kernel_rfl
noncomputable def b42 : Code := (Try.f42.body).getD .skip
theorem body42 : bodyOf Try.prog 42 = some (19, b42, [.tmp 4]) := by kernel_rfl
theorem pure42 : pureFn Try.prog 42 = true := by kernel_rfl
set_option maxHeartbeats 4000000 in
theorem ret59 (hi : Off is) {s : Shop} {i : Nat} (h : i < s.keys.length) : RetP Try.prog is orc 59 [s.u, .int .i64 i] (.bool true) := by
  have : RetP Try.prog is orc 59 [s.u, .int .i64 i] (.bool (decide ((i : Int) < (s.keys.length : Int)))) := by
    refine ret_of body59 pure59 (hi 59 (by decide)) rfl rfl (dat_l2 (dat_shop s 5) (.int _ _ _)) (.inl (.bool _ _)) ?_
    refine k_seq (k_region ?_)
    refine o_box rfl rfl ?_
    refine o_assign rfl ?_
    refine o_nil ?_
    refine k_seq (k_region ?_)
    refine o_move rfl ?_
    refine o_leq rfl rfl rfl ?_
    refine o_move rfl ?_
    refine o_gD rfl rfl rfl rfl (decide_eq_true (by omega)) ?_
    refine o_move rfl ?_
    refine o_gD rfl rfl rfl rfl (decide_eq_true (by omega)) ?_
    refine o_faddr rfl rfl fld27_2 ?_
    refine o_gD rfl rfl rfl rfl (decide_eq_true (by omega)) ?_
    refine o_load1 rfl rfl rfl sh25 rfl ?_
    refine o_gD rfl rfl rfl rfl (decide_eq_true (by omega)) ?_
    refine o_len rfl ty25 rfl (List.length_map _) ?_
    refine o_gD rfl rfl rfl rfl (decide_eq_true (by omega)) ?_
    refine o_lss rfl rfl rfl ?_
    refine o_pickT rfl rfl rfl ?_
    refine o_assign rfl ?_
    refine o_nil ?_
    refine k_ret ?_
    refine ⟨.inr rfl, _, .cons _ _ _ _ (.tmp 4) .nil, ?_⟩
    exact .refl _
  rwa [decide_eq_true (by omega)] at this
theorem askD (hi : Off is) {s : Shop} (hk : SOk s) {all : List Oper} {l : List (Oper × M0)} {d : Option Nat} {xs : Array Operand} {ts : Array TypeId} {t : TypeId} {p : String} {e : Array Edge} {Q : St → Prop} {st : St} (hlen : st.st = [.box s.cs]) (hd : okDst 1024 d = true)
    (hle : UW (.l (evalUs st xs.toList)) (.l [s.u, .bool true]))
    (k : WpD Try.prog is orc all l ((⟨st.fr, st.al, nx0 s []⟩ : St).dst d (.tup [.agg (shopC s 7 13), .int .i64 0])) Q) :
    WpD Try.prog is orc all ((⟨d, .call ⟨.value (.func 46), xs, ts⟩, t, p, e, none⟩, .quiet) :: l) st Q := by
  have hck : RetP Try.prog is orc 16 [s.u] (.int .i64 0) := by have := chk (orc := orc) hi s; rwa [chk_ok hk] at this
  refine d_callQW (n := 1) (args := [s.u, .bool true]) (M := fun u new => u = .tup [.agg (shopC s 7 13), .int .i64 0] ∧ new = [.box s.cs, .box (shopC s 7 13)] ++ new68 s 3 [] []) (by rw [hlen]; rfl) hd (fun u hu => by
    simp only [List.mem_cons, List.not_mem_nil, or_false] at hu
    rcases hu with rfl | rfl
    · exact (dat_shop s 5).nb
    · exact NB.bool _) ((wpc46 hi s hck _).mono fun u st' hM => ?_) hle (fun u new hM => ?_)
  · obtain ⟨rfl, rfl⟩ := hM
    rw [List.length_replicate]
    refine ⟨[.box s.cs, .box (shopC s 7 13)] ++ new68 s 3 [] [], rfl, Fwd.tup fun c hc => ?_, fun x hx => ?_, rfl, rfl⟩
    · simp only [List.mem_cons, List.not_mem_nil, or_false] at hc
      rcases hc with rfl | rfl
      · exact Fwd.agg (fd_shopC s (by decide) (by decide))
      · exact (NB.int _ _).fwd _
    · rcases List.mem_append.1 hx with hx | hx
      · simp only [List.mem_cons, List.not_mem_nil, or_false] at hx
        rcases hx with rfl | rfl
        · exact fd_cs _ _
        · exact fd_shopC s (by decide) (by decide)
      · exact fd_new s (by decide) x hx
  · obtain ⟨rfl, rfl⟩ := hM
    rw [hlen]; exact k
theorem strD (hi : Off is) {s : Shop} (hk : SOk s) {i : Nat} {k : Tri} (h : s.keys[i]? = some k) {es : List (U × U)} (he : Memo s true es) : WpC Try.prog is orc 60 [.agg (shopC s 7 13), .int .i64 i] (nxX s es) fun u st' => u = .int .i64 (strokeR s k) ∧ ∃ es', Memo s true es' ∧ st' = nxX s es' := by
  have := wpc60 (orc := orc) hi hk (sr_nx s) (B2 := [.box 17 0, .box 16 0, .box 13 0, .box 18 0, .box 14 0]) (bd_82 (k := 20) (n := 13) (by decide)) es [] he (fun x hx => by cases hx) h
  simp only [List.append_nil] at this
  exact this
set_option maxHeartbeats 4000000 in
theorem ret21 (hi : Off is) {s : Shop} (hk : SOk s) {i : Nat} {k : Tri} (h : s.keys[i]? = some k) : RetP Try.prog is orc 21 [s.u, .int .i64 i] (.tup [.int .i64 (unN (strokeR s k)), .int .i64 (unE (strokeR s k))]) := by
  have hil : i < s.keys.length := (List.getElem?_eq_some_iff.1 h).1
  refine ret_of body21 pure21 (hi 21 (by decide)) rfl rfl (dat_l2 (dat_shop s 5) (.int _ _ _)) (.inr ⟨_, rfl, dat_l2 (.int _ _ _) (.int _ _ _)⟩) ?_
  refine k_seq (k_region ?_)
  refine o_box rfl rfl ?_
  refine o_assign rfl ?_
  refine o_assign rfl ?_
  refine o_nil ?_
  refine k_seq ?_
  refine k_draw [.read true, .read true, .plain, .read false, .quiet, .plain, .plain, .plain, .pre, .plain, .plain] (by kernel_rfl) (by kernel_rfl) (by kernel_rfl) ?_
  refine d_load rfl (o_loadN rfl rfl rfl sh27 rfl (o_nil rfl)) ?_
  refine d_load rfl (o_loadN rfl rfl rfl sh27 rfl (o_nil rfl)) ?_
  refine d_plain (o_move rfl (o_nil rfl)) ?_
  refine d_callR rfl (ret59 hi hil) (.bool _) (.lrefl _) ?_
  refine askD hi hk rfl rfl (.lrefl _) ?_
  refine d_plain (o_move rfl (o_nil rfl)) ?_
  refine d_plain (o_extract rfl rfl rfl (o_nil rfl)) ?_
  refine d_plain (o_extract rfl rfl rfl (o_nil rfl)) ?_
  refine d_pre rfl ze73 ?_
  refine d_plain (o_storeN rfl rfl sh73 rfl rfl rfl rfl rfl (o_nil rfl)) ?_
  refine d_plain (o_assign rfl (o_nil rfl)) ?_
  refine d_nil ?_
  refine k_gen [(1, .int .i64 ↑i), (6, U.box 19 0), (7, .int .i64 0)] ([SB.box (Shop.cs s), SB.box (Shop.cs s), SB.box (shopC s 7 13), SB.box (Shop.cs s), SB.box (shopC s (3 + 4) (3 + 10)), SB.box (shopC s (3 + 4) (3 + 10)), SB.box waysC, SB.box (Shop.cs6 s), SB.box (wayC Bool.true), SB.map [], SB.box [U.mp 9], SB.box [U.fn 75 [U.agg (Shop.cs6 s)] []], SB.box [fn82 (3 + 4)], SB.box (Shop.cs6 s), SB.box (wayC Bool.false), SB.map [], SB.box [U.mp 15], SB.box [U.fn 75 [U.agg (Shop.cs6 s)] []], SB.box [fn82 (3 + 10)], SB.box [U.lst Kd.ro 3 (trisU (Shop.tools s)), .int .i64 (Shop.flo s), .int .i64 (Shop.fhi s), U.lst Kd.ro 3 (trisU (Shop.keys s)), U.fn 82 [] [U.box 11 0, U.box 10 0, U.box 7 0, U.box 12 0, U.box 8 0], U.fn 82 [] [U.box 17 0, U.box 16 0, U.box 13 0, U.box 18 0, U.box 14 0]]]) (.cons rfl (.cons rfl (.cons rfl (.nil rfl)))) rfl fun fr => ?_
  refine k_seq ?_
  refine k_seq (k_region ?_)
  refine o_move rfl ?_
  refine o_neq rfl rfl rfl ?_
  refine o_nil ?_
  refine k_cF rfl rfl ?_
  refine k_skip ?_
  refine k_seq (k_region ?_)
  refine o_loadN rfl rfl rfl sh73 rfl ?_
  refine o_move rfl ?_
  refine o_callW rfl (strD hi hk h (Memo.nil _ _)) (.lrefl _) (fun u st1 hM => ?_)
  obtain ⟨rfl, es, he, rfl⟩ := hM
  refine o_call rfl (ret55 hi _) (.lrefl _) ?_
  refine o_extract rfl rfl rfl ?_
  refine o_extract rfl rfl rfl ?_
  refine o_assign rfl ?_
  refine o_assign rfl ?_
  refine o_nil ?_
  refine k_ret ?_
  refine ⟨.inr rfl, _, .cons _ _ _ _ (.tmp 4) (.cons _ _ _ _ (.tmp 5) .nil), ?_⟩
  exact .refl _
def grB (last : Int) (m : Int) : List Int → Bool
  | [] => true
  | x :: r => if x ≤ last ∨ m ≤ x then false else grB x m r
theorem gr_range (f : Nat → Bool) (m : Int) (hf : ∀ i : Nat, f i = true → (i : Int) < m) : ∀ (n a : Nat) (last : Int), last < a → grB last m (((List.range' a n).filter f).map fun i : Nat => (i : Int)) = true := by
  intro n
  induction n with
  | zero => intro a last _; rfl
  | succ n ih =>
    intro a last h
    rw [List.range'_succ, List.filter_cons]
    by_cases e : f a = true
    · rw [if_pos e]
      show (if (a : Int) ≤ last ∨ m ≤ (a : Int) then false else grB a m _) = true
      have := hf a e
      rw [if_neg (by omega)]; exact ih (a + 1) a (by omega)
    · rw [if_neg e]; exact ih (a + 1) last (by omega)
theorem gr_drop {l : List Int} {i : Nat} {x last m : Int} (h : l[i]? = some x) : grB last m (l.drop i) = if x ≤ last ∨ m ≤ x then false else grB x m (l.drop (i + 1)) := by
  have hil := (List.getElem?_eq_some_iff.1 h).1
  rw [List.drop_eq_getElem_cons hil, (List.getElem?_eq_some_iff.1 h).2]; rfl
set_option maxHeartbeats 4000000 in
theorem ret41 (hi : Off is) (l : List Int) (m : Int) (hl : l.length ≤ 4096) : RetP Try.prog is orc 41 [.lst .ro 1 (intsU l), .int .i64 m] (.bool (grB (-1) m l)) := by
  refine ret_of body41 pure41 (hi 41 (by decide)) rfl rfl (dat_l2 (dat_ints 6 .ro (fun h => by cases h) 1 l) (.int _ _ _)) (.inl (.bool _ _)) ?_
  refine k_seq (k_region ?_)
  refine o_assign rfl ?_
  refine o_nil ?_
  refine k_seq (k_region ?_)
  refine o_assign rfl ?_
  refine o_nil ?_
  refine k_seq ?_
  refine k_seq (k_region ?_)
  refine o_assign rfl ?_
  refine o_nil ?_
  refine k_block ?_
  refine k_loop (fun k st => ∃ (i : Nat) (last : Int), k + i = l.length ∧ grB (-1) m l = grB last m (l.drop i) ∧ st.st = [] ∧ Holds st [(0, .lst .ro 1 (intsU l)), (1, .int .i64 m), (5, .int .i64 last), (6, .int .i64 i)]) (fun k st hI => ?_) l.length _ ?_
  · obtain ⟨i, last, hki, hg, hst, hs⟩ := hI
    refine k_gen _ _ hs hst fun fr => ?_
    refine k_seq ?_
    refine k_seq (k_region ?_)
    refine o_move rfl ?_
    refine o_move rfl ?_
    refine o_len rfl ty38 rfl (List.length_map _) ?_
    refine o_lss rfl rfl rfl ?_
    refine o_nil ?_
    refine k_cond rfl (fun h10 => ?_) (fun h10 => ?_)
    · refine k_skip ?_
      refine k_seq ?_
      refine k_block ?_
      refine k_seq ?_
      refine k_seq (k_region ?_)
      refine o_move rfl ?_
      refine o_move rfl ?_
      have hil : i < l.length := by have := of_decide_eq_true h10; omega
      obtain ⟨x, hx⟩ : ∃ x, l[i]? = some x := ⟨l[i], List.getElem?_eq_getElem hil⟩
      rw [gr_drop hx] at hg
      refine o_idx (u := .int .i64 x) rfl ty38 rfl rfl (Int.natCast_nonneg _) (by simp [hx]) cl3 ?_
      refine o_loadR1 rfl rfl sh3 rfl ?_
      refine o_move rfl ?_
      refine o_leq rfl rfl rfl ?_
      refine o_move rfl ?_
      refine o_guardX rfl rfl rfl rfl (fun h19 => ?_) (fun h19 => ?_)
      · refine o_move rfl ?_
        refine o_gD rfl rfl rfl rfl (by assumption) ?_
        refine o_move rfl ?_
        refine o_genA [(0, U.lst Kd.ro 1 (intsU l)), (1, .int .i64 m), (6, .int .i64 ↑i), (19, U.bool (Decidable.decide (x ≤ last))), (20, U.lst Kd.ro 1 (intsU l)), (21, .int .i64 ↑i)] [] ([]) (.cons rfl (.cons rfl (.cons rfl (.cons rfl (.cons rfl (.cons rfl (.nil rfl))))))) rfl rfl fun fr => ?_
        refine o_gD rfl rfl rfl rfl (by assumption) ?_
        refine o_genA [(0, U.lst Kd.ro 1 (intsU l)), (1, .int .i64 m), (6, .int .i64 ↑i), (19, U.bool (Decidable.decide (x ≤ last))), (20, U.lst Kd.ro 1 (intsU l)), (21, .int .i64 ↑i)] [] ([]) (.cons rfl (.cons rfl (.cons rfl (.cons rfl (.cons rfl (.cons rfl (.nil rfl))))))) rfl rfl fun fr => ?_
        refine o_idx (u := .int .i64 x) rfl ty38 rfl rfl (Int.natCast_nonneg _) (by simp [hx]) cl3 ?_
        refine o_gD rfl rfl rfl rfl (by assumption) ?_
        refine o_loadR1 rfl rfl sh3 rfl ?_
        refine o_gD rfl rfl rfl rfl (by assumption) ?_
        refine o_move rfl ?_
        refine o_gD rfl rfl rfl rfl (by assumption) ?_
        refine o_geq rfl rfl rfl ?_
        refine o_pickF rfl rfl (by assumption) ?_
        refine o_nil ?_
        refine k_gen [(0, U.lst Kd.ro 1 (intsU l)), (1, .int .i64 m), (6, .int .i64 ↑i), (20, U.lst Kd.ro 1 (intsU l)), (21, .int .i64 ↑i), (22, U.eref [.int .i64 x] 0), (23, .int .i64 x), (24, .int .i64 m), (25, U.bool (Decidable.decide (m ≤ x))), (26, U.bool (Decidable.decide (m ≤ x)))] ([]) (.cons rfl (.cons rfl (.cons rfl (.cons rfl (.cons rfl (.cons rfl (.cons rfl (.cons rfl (.cons rfl (.cons rfl (.nil rfl))))))))))) rfl fun fr => ?_
        refine k_cond rfl (fun h26 => ?_) (fun h26 => ?_)
        · refine k_seq (k_region ?_)
          refine o_assign rfl ?_
          refine o_nil ?_
          refine k_ret ?_
          refine ⟨.inr rfl, _, .cons _ _ _ _ (.tmp 4) .nil, ?_⟩
          have a1 := of_decide_eq_true h26
          rw [hg, if_pos (.inr (by omega))]; exact .refl _
        · refine k_skip ?_
          refine k_region ?_
          refine o_move rfl ?_
          refine o_move rfl ?_
          refine o_idx (u := .int .i64 x) rfl ty38 rfl rfl (Int.natCast_nonneg _) (by simp [hx]) cl3 ?_
          refine o_loadR1 rfl rfl sh3 rfl ?_
          refine o_assign rfl ?_
          refine o_nil ?_
          refine k_region ?_
          refine o_move rfl ?_
          refine o_add rfl rfl rfl (by unfold I64; omega) ?_
          refine o_assign rfl ?_
          refine o_nil ?_
          have a1 := of_decide_eq_false h26
          have a2 := of_decide_eq_false h19
          rw [if_neg (by omega)] at hg
          exact ⟨k - 1, by omega, i + 1, x, by omega, hg, rfl, .cons rfl (.cons rfl (.cons rfl (.cons rfl (.nil rfl))))⟩
      · refine o_gS rfl rfl rfl rfl (by assumption) ?_
        refine o_genA [(0, U.lst Kd.ro 1 (intsU l)), (1, .int .i64 m), (6, .int .i64 ↑i), (19, U.bool (Decidable.decide (x ≤ last))), (20, U.tup []), (21, U.tup [])] [] ([]) (.cons rfl (.cons rfl (.cons rfl (.cons rfl (.cons rfl (.cons rfl (.nil rfl))))))) rfl rfl fun fr => ?_
        refine o_gS rfl rfl rfl rfl (by assumption) ?_
        refine o_gS rfl rfl rfl rfl (by assumption) ?_
        refine o_gS rfl rfl rfl rfl (by assumption) ?_
        refine o_gS rfl rfl rfl rfl (by assumption) ?_
        refine o_pickT rfl rfl (by assumption) ?_
        refine o_nil ?_
        refine k_gen [(0, U.lst Kd.ro 1 (intsU l)), (1, .int .i64 m), (6, .int .i64 ↑i), (20, U.tup []), (21, U.tup []), (22, U.tup []), (23, U.tup []), (24, U.tup []), (25, U.tup []), (26, U.bool Bool.true)] ([]) (.cons rfl (.cons rfl (.cons rfl (.cons rfl (.cons rfl (.cons rfl (.cons rfl (.cons rfl (.cons rfl (.cons rfl (.nil rfl))))))))))) rfl fun fr => ?_
        refine k_cT rfl rfl ?_
        refine k_seq (k_region ?_)
        refine o_assign rfl ?_
        refine o_nil ?_
        refine k_ret ?_
        refine ⟨.inr rfl, _, .cons _ _ _ _ (.tmp 4) .nil, ?_⟩
        have a2 := of_decide_eq_true h19
        rw [hg, if_pos (.inl (by omega))]; exact .refl _
    · refine k_exit ?_
      refine k_seq (k_region ?_)
      refine o_assign rfl ?_
      refine o_nil ?_
      refine k_ret ?_
      refine ⟨.inr rfl, _, .cons _ _ _ _ (.tmp 4) .nil, ?_⟩
      have hil : i = l.length := by have := of_decide_eq_false h10; omega
      subst hil
      rw [hg, List.drop_length]; exact .refl _
  · exact ⟨0, -1, by omega, rfl, rfl, .cons rfl (.cons rfl (.cons rfl (.cons rfl (.nil rfl))))⟩
theorem idx_at {l : List Int} {n : Int} : ∀ {i : Nat}, l[i]? = some n → n ∉ l.take i → l.idxOf n = i := by
  induction l with
  | nil => intro i h; cases h
  | cons x l ih =>
    intro i h h2
    cases i with
    | zero => cases h; simp
    | succ i =>
      rw [List.take_succ_cons, List.mem_cons, not_or] at h2
      rw [List.idxOf_cons, show (x == n) = false by simpa using fun e => h2.1 e.symm]; simp [ih h h2.2]
def whI (l : List Int) (n : Int) : Int := if n ∈ l then (l.idxOf n : Int) else -1
set_option maxHeartbeats 4000000 in
theorem ret42 (hi : Off is) (l : List Int) (n : Int) (hl : l.length ≤ 4096) : RetP Try.prog is orc 42 [.lst .ro 1 (intsU l), .int .i64 n] (.int .i64 (whI l n)) := by
  refine ret_of body42 pure42 (hi 42 (by decide)) rfl rfl (dat_l2 (dat_ints 6 .ro (fun h => by cases h) 1 l) (.int _ _ _)) (.inl (.int _ _ _)) ?_
  refine k_seq (k_region ?_)
  refine o_assign rfl ?_
  refine o_nil ?_
  refine k_seq ?_
  refine k_seq (k_region ?_)
  refine o_assign rfl ?_
  refine o_nil ?_
  refine k_block ?_
  refine k_loop (fun k st => ∃ (i : Nat), k + i = l.length ∧ n ∉ l.take i ∧ st.st = [] ∧ Holds st [(0, .lst .ro 1 (intsU l)), (1, .int .i64 n), (5, .int .i64 i)]) (fun k st hI => ?_) l.length _ ?_
  · obtain ⟨i, hki, hno, hst, hs⟩ := hI
    refine k_gen _ _ hs hst fun fr => ?_
    refine k_seq ?_
    refine k_seq (k_region ?_)
    refine o_move rfl ?_
    refine o_move rfl ?_
    refine o_len rfl ty38 rfl (List.length_map _) ?_
    refine o_lss rfl rfl rfl ?_
    refine o_nil ?_
    refine k_cond rfl (fun h9 => ?_) (fun h9 => ?_)
    · refine k_skip ?_
      refine k_seq ?_
      refine k_block ?_
      refine k_seq (k_region ?_)
      refine o_move rfl ?_
      refine o_move rfl ?_
      have hil : i < l.length := by have := of_decide_eq_true h9; omega
      obtain ⟨x, hx⟩ : ∃ x, l[i]? = some x := ⟨l[i], List.getElem?_eq_getElem hil⟩
      refine o_idx (u := .int .i64 x) rfl ty38 rfl rfl (Int.natCast_nonneg _) (by simp [hx]) cl3 ?_
      refine o_loadR1 rfl rfl sh3 rfl ?_
      refine o_move rfl ?_
      refine o_eql rfl rfl rfl ?_
      refine o_nil ?_
      refine k_cond rfl (fun h17 => ?_) (fun h17 => ?_)
      · refine k_seq (k_region ?_)
        refine o_move rfl ?_
        refine o_assign rfl ?_
        refine o_nil ?_
        refine k_ret ?_
        refine ⟨.inr rfl, _, .cons _ _ _ _ (.tmp 4) .nil, ?_⟩
        have h17 := of_decide_eq_true h17
        subst h17
        rw [show whI l x = (i : Int) by unfold whI; rw [if_pos (List.mem_of_getElem? hx), idx_at hx hno]]; exact .refl _
      · refine k_skip ?_
        refine k_region ?_
        refine o_move rfl ?_
        refine o_add rfl rfl rfl (by unfold I64; omega) ?_
        refine o_assign rfl ?_
        refine o_nil ?_
        have h17 := of_decide_eq_false h17
        refine ⟨k - 1, by omega, i + 1, by omega, ?_, rfl, .cons rfl (.cons rfl (.cons rfl (.nil rfl)))⟩
        rw [List.take_add_one, hx]; simp; exact ⟨hno, fun e => h17 e.symm⟩
    · refine k_exit ?_
      refine k_seq (k_region ?_)
      refine o_assign rfl ?_
      refine o_nil ?_
      refine k_ret ?_
      refine ⟨.inr rfl, _, .cons _ _ _ _ (.tmp 4) .nil, ?_⟩
      have hil : i = l.length := by have := of_decide_eq_false h9; omega
      subst hil
      rw [List.take_length] at hno
      rw [show whI l n = -1 from if_neg hno]; exact .refl _
  · exact ⟨0, by omega, by simp, rfl, .cons rfl (.cons rfl (.cons rfl (.nil rfl)))⟩
end Go.Proofs.Ytdahbimllmapkaa.raspPlayed
