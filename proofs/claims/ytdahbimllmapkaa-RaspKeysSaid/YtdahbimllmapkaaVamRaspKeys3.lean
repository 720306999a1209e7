/- rasp's functions and the law's, by the logic of trees: what each gives back for all that it may be given. -/
import Derived.Test.YtdahbimllmapkaaVamRaspKeys2
namespace Go.Proofs.Ytdahbimllmapkaa.raspKeys
open Vam
set_option linter.unusedVariables false
set_option linter.unusedSimpArgs false
set_option linter.constructorNameAsVariable false
variable {is : FuncId → Bool} {orc : Known}
noncomputable def b25 : Code := (Try.f25.body).getD .skip
theorem body25 : bodyOf Try.prog 25 = some (31, b25, [.tmp 4]) := by kernel_rfl
theorem pure25 : pureFn Try.prog 25 = true := by kernel_rfl
theorem take_eq {l m : List Int} {i : Nat} {x y : Int} (hx : l[i]? = some x) (hy : m[i]? = some y) (h : l.take i = m.take i) : l.take (i + 1) = m.take (i + 1) ↔ x = y := by
  rw [List.take_add_one, List.take_add_one, hx, hy, h]; simp
set_option maxHeartbeats 4000000 in
theorem ret25 (hi : Off is) (l m : List Int) (hll : l.length ≤ 4096) : RetP Try.prog is orc 25 [.lst .ro 1 (intsU l), .lst .ro 1 (intsU m)] (.bool (decide (l = m))) := by
  refine ret_of body25 pure25 (hi 25 (by decide)) rfl rfl (dat_l2 (dat_ints 6 .ro (fun h => by cases h) 1 l) (dat_ints 6 .ro (fun h => by cases h) 1 m)) (.inl (.bool _ _)) ?_
  refine k_seq (k_region ?_)
  refine o_assign rfl ?_
  refine o_nil ?_
  refine k_seq (k_region ?_)
  refine o_move rfl ?_
  refine o_len rfl ty38 rfl (List.length_map _) ?_
  refine o_move rfl ?_
  refine o_len rfl ty38 rfl (List.length_map _) ?_
  refine o_eql rfl rfl rfl ?_
  refine o_assign rfl ?_
  refine o_nil ?_
  refine k_seq ?_
  refine k_seq (k_region ?_)
  refine o_assign rfl ?_
  refine o_nil ?_
  refine k_block ?_
  refine k_loop (fun k st => ∃ (i : Nat) (b : Bool), k + i = l.length ∧ (b = true → l.length = m.length ∧ l.take i = m.take i) ∧ (b = false → l ≠ m) ∧ st.st = [] ∧ Holds st [(0, .lst .ro 1 (intsU l)), (1, .lst .ro 1 (intsU m)), (5, .bool b), (6, .int .i64 i)]) (fun k st hI => ?_) l.length _ ?_
  · obtain ⟨i, b, hki, hb1, hb2, hst, hs⟩ := hI
    refine k_gen _ _ hs hst fun fr => ?_
    cases b with
    | true =>
      obtain ⟨hlen, htk⟩ := hb1 rfl
      refine k_seq ?_
      refine k_seq (k_region ?_)
      refine o_move rfl ?_
      refine o_move rfl ?_
      refine o_gD rfl rfl rfl rfl rfl ?_
      refine o_move rfl ?_
      refine o_gD rfl rfl rfl rfl rfl ?_
      refine o_move rfl ?_
      refine o_gD rfl rfl rfl rfl rfl ?_
      refine o_len rfl ty38 rfl (List.length_map _) ?_
      refine o_gD rfl rfl rfl rfl rfl ?_
      refine o_lss rfl rfl rfl ?_
      refine o_pickT rfl rfl rfl ?_
      refine o_nil ?_
      refine k_cond rfl (fun h18 => ?_) (fun h18 => ?_)
      · refine k_skip ?_
        refine k_seq ?_
        refine k_block ?_
        refine k_draw [.plain, .plain, .plain, .read true, .plain, .plain, .plain, .read true, .plain, .plain] (by kernel_rfl) (by kernel_rfl) (by kernel_rfl) ?_
        refine d_plain (o_move rfl (o_nil rfl)) ?_
        refine d_plain (o_move rfl (o_nil rfl)) ?_
        have hil : i < l.length := by have := of_decide_eq_true h18; omega
        obtain ⟨x, hx⟩ : ∃ x, l[i]? = some x := ⟨l[i], List.getElem?_eq_getElem hil⟩
        obtain ⟨y, hy⟩ : ∃ y, m[i]? = some y := ⟨m[i], List.getElem?_eq_getElem (by omega)⟩
        refine d_plain (o_idx (u := .int .i64 x) rfl ty38 rfl rfl (Int.natCast_nonneg _) (by simp [hx]) cl3 (o_nil rfl)) ?_
        refine d_load rfl (o_loadR1 rfl rfl sh3 rfl (o_nil rfl)) ?_
        refine d_plain (o_move rfl (o_nil rfl)) ?_
        refine d_plain (o_move rfl (o_nil rfl)) ?_
        refine d_plain (o_idx (u := .int .i64 y) rfl ty38 rfl rfl (Int.natCast_nonneg _) (by simp [hy]) cl3 (o_nil rfl)) ?_
        refine d_load rfl (o_loadR1 rfl rfl sh3 rfl (o_nil rfl)) ?_
        refine d_plain (o_eql rfl rfl rfl (o_nil rfl)) ?_
        refine d_plain (o_assign rfl (o_nil rfl)) ?_
        refine d_nil ?_
        refine k_region ?_
        refine o_move rfl ?_
        refine o_add rfl rfl rfl (by unfold I64; omega) ?_
        refine o_assign rfl ?_
        refine o_nil ?_
        refine ⟨k - 1, by omega, i + 1, _, by omega, fun h => ⟨hlen, (take_eq hx hy htk).2 (of_decide_eq_true h)⟩, fun h hlm => ?_, rfl, .cons rfl (.cons rfl (.cons rfl (.cons rfl (.nil rfl))))⟩
        subst hlm; rw [hx] at hy; cases hy; exact of_decide_eq_false h rfl
      · refine k_exit ?_
        refine k_seq (k_region ?_)
        refine o_move rfl ?_
        refine o_assign rfl ?_
        refine o_nil ?_
        refine k_ret ?_
        refine ⟨.inr rfl, _, .cons _ _ _ _ (.tmp 4) .nil, ?_⟩
        have hil : i = l.length := by have := of_decide_eq_false h18; omega
        have hlm : l = m := by rw [← List.take_length (l := l), ← hil, htk, hil, hlen, List.take_length]
        rw [decide_eq_true hlm]; exact .refl _
    | false =>
      refine k_seq ?_
      refine k_seq (k_region ?_)
      refine o_move rfl ?_
      refine o_move rfl ?_
      refine o_gS rfl rfl rfl rfl rfl ?_
      refine o_gS rfl rfl rfl rfl rfl ?_
      refine o_gS rfl rfl rfl rfl rfl ?_
      refine o_gS rfl rfl rfl rfl rfl ?_
      refine o_pickF rfl rfl rfl ?_
      refine o_nil ?_
      refine k_cF rfl rfl ?_
      refine k_exit ?_
      refine k_seq (k_region ?_)
      refine o_move rfl ?_
      refine o_assign rfl ?_
      refine o_nil ?_
      refine k_ret ?_
      refine ⟨.inr rfl, _, .cons _ _ _ _ (.tmp 4) .nil, ?_⟩
      rw [decide_eq_false (hb2 rfl)]; exact .refl _
  · exact ⟨0, _, by omega, fun h => ⟨by have := of_decide_eq_true h; omega, by simp⟩, fun h hlm => of_decide_eq_false h (by rw [hlm]), rfl, .cons rfl (.cons rfl (.cons rfl (.cons rfl (.nil rfl))))⟩
theorem lsB_le (f : Nat → Bool) : (lsB f 6).length ≤ 4096 := Nat.le_trans (ls_len f 6) (by omega)
theorem hit_bd {rec : Int → Int → Int} (hb : ∀ o m, 0 ≤ rec o m ∧ rec o m ≤ 31) (off metal : Int) (t : Tri) (n : Nat) : ∀ x ∈ hitL rec off metal t n, 0 ≤ x ∧ x ≤ 31 := fun x hx => by
  unfold hitL at hx
  obtain ⟨j, _, rfl⟩ := List.mem_map.1 hx
  exact hb _ _
noncomputable def b59 : Code := (Try.f59.body).getD .skip
theorem body59 : bodyOf Try.prog 59 = some (14, b59, [.tmp 4]) := by kernel_rfl
theorem pure59 : pureFn Try.prog 59 = true := by kernel_rfl
noncomputable def b21 : Code := (Try.f21.body).getD .skip
theorem body21 : bodyOf Try.prog 21 = some (25, b21, [.tmp 4, .tmp 5]) := by kernel_rfl
theorem pure21 : pureFn Try.prog 21 = true := by kernel_rfl
theorem pl96 : plcOf Try.prog 96 = some [(0, 1), (1, 1), (2, 1), (3, 1), (4, 1), (5, 1)] := by kernel_rfl
noncomputable def b26 : Code := (Try.f26.body).getD .skip
theorem body26 : bodyOf Try.prog 26 = some (34, b26, [.tmp 2, .tmp 3]) := by kernel_rfl
theorem pure26 : pureFn Try.prog 26 = true := by kernel_rfl
theorem hk_has {s : Shop} {i : Nat} (h : i < s.keys.length) : ∃ k, s.keys[i]? = some k := ⟨s.keys[i], List.getElem?_eq_getElem h⟩
set_option maxHeartbeats 4000000 in
theorem ret59 (hi : Off is) {s : Shop} {i : Nat} (h : i < s.keys.length) : RetP Try.prog is orc 59 [s.u, .int .i64 i] (.bool true) := by
  have : RetP Try.prog is orc 59 [s.u, .int .i64 i] (.bool (decide ((i : Int) < (s.keys.length : Int)))) := by
    refine ret_of body59 pure59 (hi 59 (by decide)) rfl rfl (dat_l2 (dat_shop s 5) (.int _ _ _)) (.inl (.bool _ _)) ?_
    refine k_seq (k_region ?_)
    refine o_box rfl rfl ?_
    refine o_assign rfl ?_
    refine o_nil ?_
    refine k_seq (k_region ?_)
    refine o_move rfl ?_
    refine o_leq rfl rfl rfl ?_
    refine o_move rfl ?_
    refine o_gD rfl rfl rfl rfl (decide_eq_true (by omega)) ?_
    refine o_move rfl ?_
    refine o_gD rfl rfl rfl rfl (decide_eq_true (by omega)) ?_
    refine o_faddr rfl rfl fld27_2 ?_
    refine o_gD rfl rfl rfl rfl (decide_eq_true (by omega)) ?_
    refine o_load1 rfl rfl rfl sh25 rfl ?_
    refine o_gD rfl rfl rfl rfl (decide_eq_true (by omega)) ?_
    refine o_len rfl ty25 rfl (List.length_map _) ?_
    refine o_gD rfl rfl rfl rfl (decide_eq_true (by omega)) ?_
    refine o_lss rfl rfl rfl ?_
    refine o_pickT rfl rfl rfl ?_
    refine o_assign rfl ?_
    refine o_nil ?_
    refine k_ret ?_
    refine ⟨.inr rfl, _, .cons _ _ _ _ (.tmp 4) .nil, ?_⟩
    exact .refl _
  rwa [decide_eq_true (by omega)] at this
theorem askD (hi : Off is) {s : Shop} (hk : SOk s) {all : List Oper} {l : List (Oper × M0)} {d : Option Nat} {xs : Array Operand} {ts : Array TypeId} {t : TypeId} {p : String} {e : Array Edge} {Q : St → Prop} {st : St} (hlen : st.st = [.box s.cs]) (hd : okDst 1024 d = true)
    (hle : UW (.l (evalUs st xs.toList)) (.l [s.u, .bool true]))
    (k : WpD Try.prog is orc all l ((⟨st.fr, st.al, nx0 s []⟩ : St).dst d (.tup [.agg (shopC s 7 13), .int .i64 0])) Q) :
    WpD Try.prog is orc all ((⟨d, .call ⟨.value (.func 46), xs, ts⟩, t, p, e, none⟩, .quiet) :: l) st Q := by
  have hck : RetP Try.prog is orc 16 [s.u] (.int .i64 0) := by have := chk (orc := orc) hi s; rwa [chk_ok hk] at this
  refine d_callQW (n := 1) (args := [s.u, .bool true]) (M := fun u new => u = .tup [.agg (shopC s 7 13), .int .i64 0] ∧ new = [.box s.cs, .box (shopC s 7 13)] ++ new68 s 3 [] []) (by rw [hlen]; rfl) hd (fun u hu => by
    simp only [List.mem_cons, List.not_mem_nil, or_false] at hu
    rcases hu with rfl | rfl
    · exact (dat_shop s 5).nb
    · exact NB.bool _) ((wpc46 hi s hck _).mono fun u st' hM => ?_) hle (fun u new hM => ?_)
  · obtain ⟨rfl, rfl⟩ := hM
    rw [List.length_replicate]
    refine ⟨[.box s.cs, .box (shopC s 7 13)] ++ new68 s 3 [] [], rfl, Fwd.tup fun c hc => ?_, fun x hx => ?_, rfl, rfl⟩
    · simp only [List.mem_cons, List.not_mem_nil, or_false] at hc
      rcases hc with rfl | rfl
      · exact Fwd.agg (fd_shopC s (by decide) (by decide))
      · exact (NB.int _ _).fwd _
    · rcases List.mem_append.1 hx with hx | hx
      · simp only [List.mem_cons, List.not_mem_nil, or_false] at hx
        rcases hx with rfl | rfl
        · exact fd_cs _ _
        · exact fd_shopC s (by decide) (by decide)
      · exact fd_new s (by decide) x hx
  · obtain ⟨rfl, rfl⟩ := hM
    rw [hlen]; exact k
theorem askO (hi : Off is) {s : Shop} (hk : SOk s) {all l : List Oper} {d : Option Nat} {xs : Array Operand} {ts : Array TypeId} {t : TypeId} {p : String} {e : Array Edge} {Q : St → Prop} {st : St} (hlen : st.st = [.box s.cs]) (hd : okDst 1024 d = true)
    (hle : UW (.l (evalUs st xs.toList)) (.l [s.u, .bool true]))
    (k : WpO Try.prog is orc all l ((⟨st.fr, [], nx0 s []⟩ : St).dst d (.tup [.agg (shopC s 7 13), .int .i64 0])) Q) :
    WpO Try.prog is orc all (⟨d, .call ⟨.value (.func 46), xs, ts⟩, t, p, e, none⟩ :: l) st Q := by
  have hck : RetP Try.prog is orc 16 [s.u] (.int .i64 0) := by have := chk (orc := orc) hi s; rwa [chk_ok hk] at this
  refine o_callW hd (wpc46 hi s hck _) hle fun u st1 hM => ?_
  obtain ⟨rfl, rfl⟩ := hM
  rw [hlen]; exact k
theorem strD (hi : Off is) {s : Shop} (hk : SOk s) {i : Nat} {k : Tri} (h : s.keys[i]? = some k) {es : List (U × U)} (he : Memo s true es) : WpC Try.prog is orc 60 [.agg (shopC s 7 13), .int .i64 i] (nxX s es) fun u st' => u = .int .i64 (strokeR s k) ∧ ∃ es', Memo s true es' ∧ st' = nxX s es' := by
  have := wpc60 (orc := orc) hi hk (sr_nx s) (B2 := [.box 17 0, .box 16 0, .box 13 0, .box 18 0, .box 14 0]) (bd_82 (k := 20) (n := 13) (by decide)) es [] he (fun x hx => by cases hx) h
  simp only [List.append_nil] at this
  exact this
theorem stroke_b (s : Shop) (k : Tri) : 0 ≤ strokeR s k ∧ strokeR s k ≤ 31 := cnt_b fun x hx => by
  obtain ⟨o, _, _, rfl⟩ := hk_iff.1 hx
  exact ⟨(cho_b s true o k.c).1, (cho_b s true o k.c).2.1⟩
set_option maxHeartbeats 4000000 in
theorem ret21 (hi : Off is) {s : Shop} (hk : SOk s) {i : Nat} {k : Tri} (h : s.keys[i]? = some k) : RetP Try.prog is orc 21 [s.u, .int .i64 i] (.tup [.int .i64 (unN (strokeR s k)), .int .i64 (unE (strokeR s k))]) := by
  have hil : i < s.keys.length := (List.getElem?_eq_some_iff.1 h).1
  refine ret_of body21 pure21 (hi 21 (by decide)) rfl rfl (dat_l2 (dat_shop s 5) (.int _ _ _)) (.inr ⟨_, rfl, dat_l2 (.int _ _ _) (.int _ _ _)⟩) ?_
  refine k_seq (k_region ?_)
  refine o_box rfl rfl ?_
  refine o_assign rfl ?_
  refine o_assign rfl ?_
  refine o_nil ?_
  refine k_seq ?_
  refine k_draw [.read true, .read true, .plain, .read false, .quiet, .plain, .plain, .plain, .pre, .plain, .plain] (by kernel_rfl) (by kernel_rfl) (by kernel_rfl) ?_
  refine d_load rfl (o_loadN rfl rfl rfl sh27 rfl (o_nil rfl)) ?_
  refine d_load rfl (o_loadN rfl rfl rfl sh27 rfl (o_nil rfl)) ?_
  refine d_plain (o_move rfl (o_nil rfl)) ?_
  refine d_callR rfl (ret59 hi hil) (.bool _) (.lrefl _) ?_
  refine askD hi hk rfl rfl (.lrefl _) ?_
  refine d_plain (o_move rfl (o_nil rfl)) ?_
  refine d_plain (o_extract rfl rfl rfl (o_nil rfl)) ?_
  refine d_plain (o_extract rfl rfl rfl (o_nil rfl)) ?_
  refine d_pre rfl ze73 ?_
  refine d_plain (o_storeN rfl rfl sh73 rfl rfl rfl rfl rfl (o_nil rfl)) ?_
  refine d_plain (o_assign rfl (o_nil rfl)) ?_
  refine d_nil ?_
  refine k_gen [(1, .int .i64 ↑i), (6, U.box 19 0), (7, .int .i64 0)] ([SB.box (Shop.cs s), SB.box (Shop.cs s), SB.box (shopC s 7 13), SB.box (Shop.cs s), SB.box (shopC s (3 + 4) (3 + 10)), SB.box (shopC s (3 + 4) (3 + 10)), SB.box waysC, SB.box (Shop.cs6 s), SB.box (wayC Bool.true), SB.map [], SB.box [U.mp 9], SB.box [U.fn 75 [U.agg (Shop.cs6 s)] []], SB.box [fn82 (3 + 4)], SB.box (Shop.cs6 s), SB.box (wayC Bool.false), SB.map [], SB.box [U.mp 15], SB.box [U.fn 75 [U.agg (Shop.cs6 s)] []], SB.box [fn82 (3 + 10)], SB.box [U.lst Kd.ro 3 (trisU (Shop.tools s)), .int .i64 (Shop.flo s), .int .i64 (Shop.fhi s), U.lst Kd.ro 3 (trisU (Shop.keys s)), U.fn 82 [] [U.box 11 0, U.box 10 0, U.box 7 0, U.box 12 0, U.box 8 0], U.fn 82 [] [U.box 17 0, U.box 16 0, U.box 13 0, U.box 18 0, U.box 14 0]]]) (.cons rfl (.cons rfl (.cons rfl (.nil rfl)))) rfl fun fr => ?_
  refine k_seq ?_
  refine k_seq (k_region ?_)
  refine o_move rfl ?_
  refine o_neq rfl rfl rfl ?_
  refine o_nil ?_
  refine k_cF rfl rfl ?_
  refine k_skip ?_
  refine k_seq (k_region ?_)
  refine o_loadN rfl rfl rfl sh73 rfl ?_
  refine o_move rfl ?_
  refine o_callW rfl (strD hi hk h (Memo.nil _ _)) (.lrefl _) (fun u st1 hM => ?_)
  obtain ⟨rfl, es, he, rfl⟩ := hM
  refine o_call rfl (ret55 hi _) (.lrefl _) ?_
  refine o_extract rfl rfl rfl ?_
  refine o_extract rfl rfl rfl ?_
  refine o_assign rfl ?_
  refine o_assign rfl ?_
  refine o_nil ?_
  refine k_ret ?_
  refine ⟨.inr rfl, _, .cons _ _ _ _ (.tmp 4) (.cons _ _ _ _ (.tmp 5) .nil), ?_⟩
  exact .refl _
def totS (s : Shop) (n : Nat) : Int := ((s.keys.take n).map (strokeR s)).foldl (· + ·) 0
theorem tot_succ {s : Shop} {n : Nat} {k : Tri} (h : s.keys[n]? = some k) : totS s (n + 1) = totS s n + strokeR s k := by
  unfold totS; rw [List.take_add_one, h, List.map_append, List.foldl_append]; rfl
def anyB (f : Nat → Bool) : Bool := f 0 || (f 1 || (f 2 || (f 3 || (f 4 || f 5))))
theorem neq96 (f : Nat → Bool) : binV Try.prog 96 .neq (valK (.agg (sixU f))) (valK (.agg (sixU fun _ => false))) = some (.bool (anyB f)) := by
  have h : ∀ a b c d e g : Bool, binV Try.prog 96 .neq (valK (.agg [.bool a, .bool b, .bool c, .bool d, .bool e, .bool g])) (valK (.agg (sixU fun _ => false))) = some (.bool (a || (b || (c || (d || (e || g)))))) := by
    intro a b c d e g
    cases a <;> cases b <;> cases c <;> cases d <;> cases e <;> cases g <;> kernel_rfl
  exact h _ _ _ _ _ _
set_option maxHeartbeats 4000000 in
theorem ret26 (hi : Off is) {s : Shop} (hk : SOk s) : RetP Try.prog is orc 26 [s.u] (if anyB (spB s) = true then .tup [.int .i64 0, .int .i64 4] else .tup [.int .i64 (totS s s.keys.length), .int .i64 0]) := by
  have hnk := hk.nk
  have hn := neq96 (spB s)
  refine ret_of body26 pure26 (hi 26 (by decide)) rfl rfl (dat_l1 (dat_shop s 5)) (by split <;> exact .inr ⟨_, rfl, dat_l2 (.int _ _ _) (.int _ _ _)⟩) ?_
  refine k_seq (k_region ?_)
  refine o_box rfl rfl ?_
  refine o_assign rfl ?_
  refine o_assign rfl ?_
  refine o_nil ?_
  refine k_seq (k_region ?_)
  refine o_loadN rfl rfl rfl sh27 rfl ?_
  refine askO hi hk rfl rfl (.lrefl _) ?_
  refine o_move rfl ?_
  refine o_extract rfl rfl rfl ?_
  refine o_extract rfl rfl rfl ?_
  refine o_alloc rfl ze73 ?_
  refine o_storeN rfl rfl sh73 rfl rfl rfl rfl rfl ?_
  refine o_assign rfl ?_
  refine o_nil ?_
  refine k_seq ?_
  refine k_seq (k_region ?_)
  refine o_move rfl ?_
  refine o_neq rfl rfl rfl ?_
  refine o_nil ?_
  refine k_gen [(4, U.box 19 0), (5, .int .i64 0), (14, U.bool (Decidable.decide (0 ≠ 0)))] ([SB.box (Shop.cs s), SB.box (Shop.cs s), SB.box (shopC s 7 13), SB.box (Shop.cs s), SB.box (shopC s (3 + 4) (3 + 10)), SB.box (shopC s (3 + 4) (3 + 10)), SB.box waysC, SB.box (Shop.cs6 s), SB.box (wayC Bool.true), SB.map [], SB.box [U.mp 9], SB.box [U.fn 75 [U.agg (Shop.cs6 s)] []], SB.box [fn82 (3 + 4)], SB.box (Shop.cs6 s), SB.box (wayC Bool.false), SB.map [], SB.box [U.mp 15], SB.box [U.fn 75 [U.agg (Shop.cs6 s)] []], SB.box [fn82 (3 + 10)], SB.box [U.lst Kd.ro 3 (trisU (Shop.tools s)), .int .i64 (Shop.flo s), .int .i64 (Shop.fhi s), U.lst Kd.ro 3 (trisU (Shop.keys s)), U.fn 82 [] [U.box 11 0, U.box 10 0, U.box 7 0, U.box 12 0, U.box 8 0], U.fn 82 [] [U.box 17 0, U.box 16 0, U.box 13 0, U.box 18 0, U.box 14 0]]]) (.cons rfl (.cons rfl (.cons rfl (.nil rfl)))) rfl fun fr => ?_
  refine k_cF rfl rfl ?_
  refine k_skip ?_
  refine k_seq ?_
  refine k_seq (k_region ?_)
  refine o_loadN rfl rfl rfl sh73 rfl ?_
  refine o_callW rfl (by
    have := wpc62 (orc := orc) hi hk (sr_nx s) (B2 := [.box 17 0, .box 16 0, .box 13 0, .box 18 0, .box 14 0]) (bd_82 (k := 20) (n := 13) (by decide)) [] [] (Memo.nil _ _) (fun x hx => by cases hx)
    rw [List.append_nil] at this
    exact this) (.lrefl _) (fun u st1 hM => ?_)
  obtain ⟨rfl, es, he, rfl⟩ := hM
  rw [List.append_nil]
  generalize anyB (spB s) = ab at hn ⊢
  cases ab with
  | true =>
    refine o_build rfl ze96 pl96 rfl rfl ?_
    refine o_binK rfl rfl rfl rfl rfl hn ?_
    refine o_nil ?_
    refine k_cT rfl rfl ?_
    refine k_seq (k_region ?_)
    refine o_assign rfl ?_
    refine o_assign rfl ?_
    refine o_nil ?_
    refine k_ret ?_
    refine ⟨.inr rfl, _, .cons _ _ _ _ (.tmp 2) (.cons _ _ _ _ (.tmp 3) .nil), ?_⟩
    exact .refl _
  | false =>
    refine o_build rfl ze96 pl96 rfl rfl ?_
    refine o_binK rfl rfl rfl rfl rfl hn ?_
    refine o_nil ?_
    refine k_cF rfl rfl ?_
    refine k_skip ?_
    refine k_seq (k_region ?_)
    refine o_assign rfl ?_
    refine o_nil ?_
    refine k_seq ?_
    refine k_seq (k_region ?_)
    refine o_faddr rfl rfl fld73_0 ?_
    refine o_faddr rfl rfl fld27_2 ?_
    refine o_load1 rfl rfl rfl sh25 rfl ?_
    refine o_len rfl ty25 rfl (List.length_map _) ?_
    refine o_move rfl ?_
    refine o_nil ?_
    refine k_block ?_
    refine k_loop (fun k st => ∃ (i : Nat) (es : List (U × U)), k + i = s.keys.length ∧ Memo s true es ∧ 0 ≤ totS s i ∧ totS s i ≤ 31 * i ∧ st.st = nxX s es ∧ Holds st [(4, .box 19 0), (6, .int .i64 (totS s i)), (23, .int .i64 s.keys.length), (24, .int .i64 i)]) (fun k st hI => ?_) s.keys.length _ ?_
    · obtain ⟨i, es, hki, he, ht0, ht1, hst, hs⟩ := hI
      refine k_gen _ _ hs hst fun fr => ?_
      refine k_seq (k_region ?_)
      refine o_lss rfl rfl rfl ?_
      refine o_nil ?_
      refine k_seq ?_
      refine k_cond rfl (fun h25 => ?_) (fun h25 => ?_)
      · refine k_skip ?_
        refine k_seq ?_
        refine k_block ?_
        refine k_seq (k_region ?_)
        refine o_move rfl ?_
        refine o_assign rfl ?_
        refine o_nil ?_
        refine k_region ?_
        refine o_move rfl ?_
        refine o_loadN rfl rfl rfl sh73 rfl ?_
        refine o_move rfl ?_
        have hil : i < s.keys.length := by have := of_decide_eq_true h25; omega
        obtain ⟨q, hq⟩ := hk_has hil
        have hts := tot_succ hq
        have hsb := stroke_b s q
        refine o_callW rfl (strD hi hk hq he) (.lrefl _) (fun u st1 hM => ?_)
        obtain ⟨rfl, es, he, rfl⟩ := hM
        refine o_add rfl rfl rfl (by unfold I64; omega) ?_
        refine o_assign rfl ?_
        refine o_nil ?_
        refine k_region ?_
        refine o_add rfl rfl rfl (by unfold I64; omega) ?_
        refine o_move rfl ?_
        refine o_nil ?_
        refine ⟨k - 1, by omega, i + 1, es, by omega, he, by omega, by omega, rfl, .cons rfl (.cons (by rw [hts]; rfl) (.cons rfl (.cons rfl (.nil rfl))))⟩
      · refine k_exit ?_
        refine k_seq (k_region ?_)
        refine o_move rfl ?_
        refine o_assign rfl ?_
        refine o_assign rfl ?_
        refine o_nil ?_
        refine k_ret ?_
        refine ⟨.inr rfl, _, .cons _ _ _ _ (.tmp 2) (.cons _ _ _ _ (.tmp 3) .nil), ?_⟩
        have hil : i = s.keys.length := by have := of_decide_eq_false h25; omega
        subst hil
        exact .refl _
    · exact ⟨0, es, by omega, he, Int.le_refl _, Int.le_refl _, rfl, .cons rfl (.cons rfl (.cons rfl (.cons rfl (.nil rfl))))⟩
end Go.Proofs.Ytdahbimllmapkaa.raspKeys
