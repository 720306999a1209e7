/- rasp's functions and the law's, by the logic of trees: what each gives back for all that it may be given. -/
import Derived.Test.YtdahbimllmapkaaVamRaspEnough2
namespace Go.Proofs.Ytdahbimllmapkaa.raspEnough
open Vam
set_option linter.unusedVariables false
set_option linter.unusedSimpArgs false
set_option linter.constructorNameAsVariable false
variable {is : FuncId → Bool} {orc : Known}
theorem lsB_le (f : Nat → Bool) : (lsB f 6).length ≤ 4096 := Nat.le_trans (ls_len f 6) (by omega)
def tvT (rec : Int → Int → Int) (w : Bool) (off metal : Int) (t : Tri) : Int := if metal < t.c then 32 else cntL w (hitL rec off metal t (widM t)) + 1
theorem hit_bd {rec : Int → Int → Int} (hb : ∀ o m, 0 ≤ rec o m ∧ rec o m ≤ 31) (off metal : Int) (t : Tri) (n : Nat) : ∀ x ∈ hitL rec off metal t n, 0 ≤ x ∧ x ≤ 31 := fun x hx => by
  unfold hitL at hx
  obtain ⟨j, _, rfl⟩ := List.mem_map.1 hx
  exact hb _ _
theorem step_tv {rec : Int → Int → Int} (hb : ∀ o m, 0 ≤ rec o m ∧ rec o m ≤ 31) {w : Bool} {off metal : Int} {tk : Int × Int} {i : Nat} {t : Tri} (hk : tk.2 ≤ 31) : (stepT rec w off metal tk i t).2 = min tk.2 (tvT rec w off metal t) := by
  have hx := hit_bd hb off metal t (widM t)
  have hc := cnt_b (w := w) hx
  unfold stepT tvT
  by_cases h1 : metal < t.c
  · rw [if_pos h1, if_pos h1]; omega
  · rw [if_neg h1, if_neg h1]
    cases w with
    | true =>
      by_cases h2 : (hitL rec off metal t (widM t)).any (fun x => decide (x = 31)) = true
      · have h3 : cntL true (hitL rec off metal t (widM t)) = 31 := by
          obtain ⟨x, hm, h4⟩ := List.any_eq_true.1 h2
          have h4 := of_decide_eq_true h4
          have := foldmax_mem _ 0 x hm
          show List.foldl _ 0 _ = _
          have h5 : List.foldl (fun a b => max a b) 0 (hitL rec off metal t (widM t)) ≤ 31 := hc.2
          omega
        simp only [h2, Bool.and_self, if_true, h3]; omega
      · have h2 : (hitL rec off metal t (widM t)).any (fun x => decide (x = 31)) = false := by rw [← Bool.not_eq_true]; exact h2
        simp only [h2, Bool.and_false]
        by_cases h3 : cntL true (hitL rec off metal t (widM t)) + 1 < tk.2
        · simp [h3]; omega
        · simp [h3]; omega
    | false =>
      by_cases h3 : cntL false (hitL rec off metal t (widM t)) + 1 < tk.2
      · simp [h3]; omega
      · simp [h3]; omega
theorem take_tv {rec : Int → Int → Int} (hb : ∀ o m, 0 ≤ rec o m ∧ rec o m ≤ 31) {w : Bool} {T : List Tri} {off metal : Int} : ∀ i, i ≤ T.length → (takeT T rec w off metal i).2 ≤ 31 ∧ (∀ j t, j < i → T[j]? = some t → (takeT T rec w off metal i).2 ≤ tvT rec w off metal t) ∧ ((takeT T rec w off metal i).2 = 31 ∨ ∃ t ∈ T, (takeT T rec w off metal i).2 = tvT rec w off metal t) := by
  intro i
  induction i with
  | zero => intro _; exact ⟨Int.le_refl 31, fun j t h => absurd h (Nat.not_lt_zero j), .inl rfl⟩
  | succ i ih =>
    intro hi
    obtain ⟨h1, h2, h3⟩ := ih (by omega)
    obtain ⟨t, ht⟩ : ∃ t, T[i]? = some t := ⟨T[i], List.getElem?_eq_getElem (by omega)⟩
    have e : (takeT T rec w off metal (i + 1)).2 = min (takeT T rec w off metal i).2 (tvT rec w off metal t) := by
      show (match T[i]? with | some t => stepT rec w off metal (takeT T rec w off metal i) i t | none => takeT T rec w off metal i).2 = _
      rw [ht]; exact step_tv hb h1
    rw [e]
    refine ⟨by omega, fun j u hj hu => ?_, ?_⟩
    · by_cases e2 : j = i
      · subst e2; rw [ht] at hu; cases hu; omega
      · have := h2 j u (by omega) hu; omega
    · rcases h3 with h3 | ⟨u, hu, h3⟩
      · by_cases h4 : tvT rec w off metal t < 31
        · exact .inr ⟨t, List.mem_of_getElem? ht, by omega⟩
        · exact .inl (by omega)
      · by_cases h4 : tvT rec w off metal t < tvT rec w off metal u
        · exact .inr ⟨t, List.mem_of_getElem? ht, by omega⟩
        · exact .inr ⟨u, hu, by omega⟩
theorem take_le {rec rec' : Int → Int → Int} (hb : ∀ o m, 0 ≤ rec o m ∧ rec o m ≤ 31) (hb' : ∀ o m, 0 ≤ rec' o m ∧ rec' o m ≤ 31) {w w' : Bool} {T T' : List Tri} {off metal metal' : Int} (h : ∀ t ∈ T, ∃ t' ∈ T', tvT rec' w' off metal' t' ≤ tvT rec w off metal t) : (takeT T' rec' w' off metal' T'.length).2 ≤ (takeT T rec w off metal T.length).2 := by
  obtain ⟨_, _, h3⟩ := take_tv hb (w := w) (T := T) (off := off) (metal := metal) T.length (Nat.le_refl _)
  obtain ⟨h1, h2, _⟩ := take_tv hb' (w := w') (T := T') (off := off) (metal := metal') T'.length (Nat.le_refl _)
  rcases h3 with h3 | ⟨t, ht, h3⟩
  · omega
  · obtain ⟨t', ht', h4⟩ := h t ht
    obtain ⟨j, hj⟩ := List.mem_iff_getElem?.1 ht'
    have := h2 j t' (by have := (List.getElem?_eq_some_iff.1 hj).1; omega) hj
    omega
theorem tv_le32 {rec : Int → Int → Int} (hb : ∀ o m, 0 ≤ rec o m ∧ rec o m ≤ 31) (w : Bool) (off metal : Int) (t : Tri) : tvT rec w off metal t ≤ 32 := by
  have hc := cnt_b (w := w) (hit_bd hb off metal t (widM t))
  unfold tvT; split <;> omega
structure Easier (s s' : Shop) (w : Bool) : Prop where
  fine : ∀ off, fineB s off = true → fineB s' off = true
  tool : ∀ t ∈ s.tools, ∃ t' ∈ s'.tools, t.a ≤ t'.a ∧ t'.a ≤ t'.b ∧ t'.b ≤ t.b ∧ t'.c ≤ t.c ∧ (w = false → t'.a = t.a ∧ t'.b = t.b)
theorem cho_easier {s s' : Shop} (hs : SOk s) (hs' : SOk s') {w : Bool} (h : Easier s s' w) : ∀ (n : Nat) (off m m' : Int), 0 ≤ m → m < n → m ≤ m' → (cho s' w off m').2 ≤ (cho s w off m).2 := by
  intro n
  induction n with
  | zero => intro off m m' h0 h1; omega
  | succ n ih =>
    intro off m m' h0 h1 h2
    have b1 : ∀ o m, 0 ≤ (cho s w o m).2 ∧ (cho s w o m).2 ≤ 31 := fun o m => ⟨(cho_b s w o m).1, (cho_b s w o m).2.1⟩
    have b2 : ∀ o m, 0 ≤ (cho s' w o m).2 ∧ (cho s' w o m).2 ≤ 31 := fun o m => ⟨(cho_b s' w o m).1, (cho_b s' w o m).2.1⟩
    by_cases hf : fineB s' off = true
    · rw [cho_fine hs' (by omega) hf]; exact (b1 _ _).1
    · have hf1 : ¬ fineB s off = true := fun e => hf (h.fine off e)
      rw [cho_eq hs h0, cho_eq hs' (by omega : 0 ≤ m'), if_neg hf, if_neg hf1]
      by_cases ho : offB off = true
      · rw [if_pos ho, if_pos ho]
        refine take_le b1 b2 fun t ht => ?_
        obtain ⟨t', ht', r1, r2, r3, r4, r5⟩ := h.tool t ht
        refine ⟨t', ht', ?_⟩
        by_cases hm : m < t.c
        · have := tv_le32 b2 w off m' t'
          rw [show tvT (fun o m => (cho s w o m).2) w off m t = 32 from if_pos hm]; exact this
        · rw [show tvT (fun o m => (cho s w o m).2) w off m t = _ from if_neg hm, show tvT (fun o m => (cho s' w o m).2) w off m' t' = _ from if_neg (by omega)]
          have hcs := hs.tools t ht
          have key : ∀ d, t'.a ≤ d → d ≤ t'.b → (cho s' w (off + d) (m' - t'.c)).2 ≤ (cho s w (off + d) (m - t.c)).2 := fun d _ _ => ih _ _ _ (by omega) (by omega) (by omega)
          cases w with
          | true =>
            refine Int.add_le_add_right (foldmax_le _ _ _ (foldmax_ge _ 0) fun x hx => ?_) 1
            obtain ⟨d, d1, d2, rfl⟩ := hit_iff.1 hx
            exact Int.le_trans (key d d1 d2) (foldmax_mem _ 0 _ (hit_iff.2 ⟨d, by omega, by omega, rfl⟩))
          | false =>
            obtain ⟨e1, e2⟩ := r5 rfl
            refine Int.add_le_add_right ?_ 1
            show List.foldl _ 31 _ ≤ List.foldl _ 31 _
            rcases foldmin_mem (hitL (fun o m => (cho s false o m).2) off m t (widM t)) 31 with e | e
            · rw [e]; exact foldmin_le _ 31
            · obtain ⟨d, d1, d2, e3⟩ := hit_iff.1 e
              rw [← e3]
              exact Int.le_trans (foldmin_mem_le' _ 31 _ (hit_iff.2 ⟨d, by omega, by omega, rfl⟩)) (key d (by omega) (by omega))
      · rw [if_neg ho, if_neg ho]; exact Int.le_refl _
theorem cho_more {s : Shop} (hs : SOk s) {w : Bool} {off m m' : Int} (h0 : 0 ≤ m) (h : m ≤ m') : (cho s w off m').2 ≤ (cho s w off m).2 :=
  cho_easier hs hs ⟨fun _ h => h, fun t ht => ⟨t, ht, by omega, (hs.tools t ht).2.1, by omega, by omega, fun _ => ⟨rfl, rfl⟩⟩⟩ (m.toNat + 1) off m m' h0 (by omega) h
noncomputable def b59 : Code := (Try.f59.body).getD .skip
theorem body59 : bodyOf Try.prog 59 = some (14, b59, [.tmp 4]) := by kernel_rfl
theorem pure59 : pureFn Try.prog 59 = true := by kernel_rfl
noncomputable def b21 : Code := (Try.f21.body).getD .skip
theorem body21 : bodyOf Try.prog 21 = some (25, b21, [.tmp 4, .tmp 5]) := by kernel_rfl
theorem pure21 : pureFn Try.prog 21 = true := by kernel_rfl
theorem pl96 : plcOf Try.prog 96 = some [(0, 1), (1, 1), (2, 1), (3, 1), (4, 1), (5, 1)] := by kernel_rfl
noncomputable def b26 : Code := (Try.f26.body).getD .skip
theorem body26 : bodyOf Try.prog 26 = some (34, b26, [.tmp 2, .tmp 3]) := by kernel_rfl
theorem pure26 : pureFn Try.prog 26 = true := by kernel_rfl
noncomputable def b41 : Code := (Try.f41.body).getD .skip
theorem body41 : bodyOf Try.prog 41 = some (31, b41, [.tmp 4]) := by kernel_rfl
theorem pure41 : pureFn Try.prog 41 = true := by kernel_rfl
noncomputable def b42 : Code := (Try.f42.body).getD .skip
theorem body42 : bodyOf Try.prog 42 = some (19, b42, [.tmp 4]) := by kernel_rfl
theorem pure42 : pureFn Try.prog 42 = true := by kernel_rfl
theorem hk_has {s : Shop} {i : Nat} (h : i < s.keys.length) : ∃ k, s.keys[i]? = some k := ⟨s.keys[i], List.getElem?_eq_getElem h⟩
set_option maxHeartbeats 4000000 in
theorem ret59 (hi : Off is) {s : Shop} {i : Nat} (h : i < s.keys.length) : RetP Try.prog is orc 59 [s.u, .int .i64 i] (.bool true) := by
  have : RetP Try.prog is orc 59 [s.u, .int .i64 i] (.bool (decide ((i : Int) < (s.keys.length : Int)))) := by
    refine ret_of body59 pure59 (hi 59 (by decide)) rfl rfl (dat_l2 (dat_shop s 5) (.int _ _ _)) (.inl (.bool _ _)) ?_
    refine k_seq (k_region ?_)
    refine o_box rfl rfl ?_
    refine o_assign rfl ?_
    refine o_nil ?_
    refine k_seq (k_region ?_)
    refine o_move rfl ?_
    refine o_leq rfl rfl rfl ?_
    refine o_move rfl ?_
    refine o_gD rfl rfl rfl rfl (decide_eq_true (by omega)) ?_
    refine o_move rfl ?_
    refine o_gD rfl rfl rfl rfl (decide_eq_true (by omega)) ?_
    refine o_faddr rfl rfl fld27_2 ?_
    refine o_gD rfl rfl rfl rfl (decide_eq_true (by omega)) ?_
    refine o_load1 rfl rfl rfl sh25 rfl ?_
    refine o_gD rfl rfl rfl rfl (decide_eq_true (by omega)) ?_
    refine o_len rfl ty25 rfl (List.length_map _) ?_
    refine o_gD rfl rfl rfl rfl (decide_eq_true (by omega)) ?_
    refine o_lss rfl rfl rfl ?_
    refine o_pickT rfl rfl rfl ?_
    refine o_assign rfl ?_
    refine o_nil ?_
    refine k_ret ?_
    refine ⟨.inr rfl, _, .cons _ _ _ _ (.tmp 4) .nil, ?_⟩
    exact .refl _
  rwa [decide_eq_true (by omega)] at this
theorem askD (hi : Off is) {s : Shop} (hk : SOk s) {all : List Oper} {l : List (Oper × M0)} {d : Option Nat} {xs : Array Operand} {ts : Array TypeId} {t : TypeId} {p : String} {e : Array Edge} {Q : St → Prop} {st : St} (hlen : st.st = [.box s.cs]) (hd : okDst 1024 d = true)
    (hle : UW (.l (evalUs st xs.toList)) (.l [s.u, .bool true]))
    (k : WpD Try.prog is orc all l ((⟨st.fr, st.al, nx0 s []⟩ : St).dst d (.tup [.agg (shopC s 7 13), .int .i64 0])) Q) :
    WpD Try.prog is orc all ((⟨d, .call ⟨.value (.func 46), xs, ts⟩, t, p, e, none⟩, .quiet) :: l) st Q := by
  have hck : RetP Try.prog is orc 16 [s.u] (.int .i64 0) := by have := chk (orc := orc) hi s; rwa [chk_ok hk] at this
  refine d_callQW (n := 1) (args := [s.u, .bool true]) (M := fun u new => u = .tup [.agg (shopC s 7 13), .int .i64 0] ∧ new = [.box s.cs, .box (shopC s 7 13)] ++ new68 s 3 [] []) (by rw [hlen]; rfl) hd (fun u hu => by
    simp only [List.mem_cons, List.not_mem_nil, or_false] at hu
    rcases hu with rfl | rfl
    · exact (dat_shop s 5).nb
    · exact NB.bool _) ((wpc46 hi s hck _).mono fun u st' hM => ?_) hle (fun u new hM => ?_)
  · obtain ⟨rfl, rfl⟩ := hM
    rw [List.length_replicate]
    refine ⟨[.box s.cs, .box (shopC s 7 13)] ++ new68 s 3 [] [], rfl, Fwd.tup fun c hc => ?_, fun x hx => ?_, rfl, rfl⟩
    · simp only [List.mem_cons, List.not_mem_nil, or_false] at hc
      rcases hc with rfl | rfl
      · exact Fwd.agg (fd_shopC s (by decide) (by decide))
      · exact (NB.int _ _).fwd _
    · rcases List.mem_append.1 hx with hx | hx
      · simp only [List.mem_cons, List.not_mem_nil, or_false] at hx
        rcases hx with rfl | rfl
        · exact fd_cs _ _
        · exact fd_shopC s (by decide) (by decide)
      · exact fd_new s (by decide) x hx
  · obtain ⟨rfl, rfl⟩ := hM
    rw [hlen]; exact k
theorem askO (hi : Off is) {s : Shop} (hk : SOk s) {all l : List Oper} {d : Option Nat} {xs : Array Operand} {ts : Array TypeId} {t : TypeId} {p : String} {e : Array Edge} {Q : St → Prop} {st : St} (hlen : st.st = [.box s.cs]) (hd : okDst 1024 d = true)
    (hle : UW (.l (evalUs st xs.toList)) (.l [s.u, .bool true]))
    (k : WpO Try.prog is orc all l ((⟨st.fr, [], nx0 s []⟩ : St).dst d (.tup [.agg (shopC s 7 13), .int .i64 0])) Q) :
    WpO Try.prog is orc all (⟨d, .call ⟨.value (.func 46), xs, ts⟩, t, p, e, none⟩ :: l) st Q := by
  have hck : RetP Try.prog is orc 16 [s.u] (.int .i64 0) := by have := chk (orc := orc) hi s; rwa [chk_ok hk] at this
  refine o_callW hd (wpc46 hi s hck _) hle fun u st1 hM => ?_
  obtain ⟨rfl, rfl⟩ := hM
  rw [hlen]; exact k
theorem strD (hi : Off is) {s : Shop} (hk : SOk s) {i : Nat} {k : Tri} (h : s.keys[i]? = some k) {es : List (U × U)} (he : Memo s true es) : WpC Try.prog is orc 60 [.agg (shopC s 7 13), .int .i64 i] (nxX s es) fun u st' => u = .int .i64 (strokeR s k) ∧ ∃ es', Memo s true es' ∧ st' = nxX s es' := by
  have := wpc60 (orc := orc) hi hk (sr_nx s) (B2 := [.box 17 0, .box 16 0, .box 13 0, .box 18 0, .box 14 0]) (bd_82 (k := 20) (n := 13) (by decide)) es [] he (fun x hx => by cases hx) h
  simp only [List.append_nil] at this
  exact this
theorem stroke_b (s : Shop) (k : Tri) : 0 ≤ strokeR s k ∧ strokeR s k ≤ 31 := cnt_b fun x hx => by
  obtain ⟨o, _, _, rfl⟩ := hk_iff.1 hx
  exact ⟨(cho_b s true o k.c).1, (cho_b s true o k.c).2.1⟩
set_option maxHeartbeats 4000000 in
theorem ret21 (hi : Off is) {s : Shop} (hk : SOk s) {i : Nat} {k : Tri} (h : s.keys[i]? = some k) : RetP Try.prog is orc 21 [s.u, .int .i64 i] (.tup [.int .i64 (unN (strokeR s k)), .int .i64 (unE (strokeR s k))]) := by
  have hil : i < s.keys.length := (List.getElem?_eq_some_iff.1 h).1
  refine ret_of body21 pure21 (hi 21 (by decide)) rfl rfl (dat_l2 (dat_shop s 5) (.int _ _ _)) (.inr ⟨_, rfl, dat_l2 (.int _ _ _) (.int _ _ _)⟩) ?_
  refine k_seq (k_region ?_)
  refine o_box rfl rfl ?_
  refine o_assign rfl ?_
  refine o_assign rfl ?_
  refine o_nil ?_
  refine k_seq ?_
  refine k_draw [.read true, .read true, .plain, .read false, .quiet, .plain, .plain, .plain, .pre, .plain, .plain] (by kernel_rfl) (by kernel_rfl) (by kernel_rfl) ?_
  refine d_load rfl (o_loadN rfl rfl rfl sh27 rfl (o_nil rfl)) ?_
  refine d_load rfl (o_loadN rfl rfl rfl sh27 rfl (o_nil rfl)) ?_
  refine d_plain (o_move rfl (o_nil rfl)) ?_
  refine d_callR rfl (ret59 hi hil) (.bool _) (.lrefl _) ?_
  refine askD hi hk rfl rfl (.lrefl _) ?_
  refine d_plain (o_move rfl (o_nil rfl)) ?_
  refine d_plain (o_extract rfl rfl rfl (o_nil rfl)) ?_
  refine d_plain (o_extract rfl rfl rfl (o_nil rfl)) ?_
  refine d_pre rfl ze73 ?_
  refine d_plain (o_storeN rfl rfl sh73 rfl rfl rfl rfl rfl (o_nil rfl)) ?_
  refine d_plain (o_assign rfl (o_nil rfl)) ?_
  refine d_nil ?_
  refine k_gen [(1, .int .i64 ↑i), (6, U.box 19 0), (7, .int .i64 0)] ([SB.box (Shop.cs s), SB.box (Shop.cs s), SB.box (shopC s 7 13), SB.box (Shop.cs s), SB.box (shopC s (3 + 4) (3 + 10)), SB.box (shopC s (3 + 4) (3 + 10)), SB.box waysC, SB.box (Shop.cs6 s), SB.box (wayC Bool.true), SB.map [], SB.box [U.mp 9], SB.box [U.fn 75 [U.agg (Shop.cs6 s)] []], SB.box [fn82 (3 + 4)], SB.box (Shop.cs6 s), SB.box (wayC Bool.false), SB.map [], SB.box [U.mp 15], SB.box [U.fn 75 [U.agg (Shop.cs6 s)] []], SB.box [fn82 (3 + 10)], SB.box [U.lst Kd.ro 3 (trisU (Shop.tools s)), .int .i64 (Shop.flo s), .int .i64 (Shop.fhi s), U.lst Kd.ro 3 (trisU (Shop.keys s)), U.fn 82 [] [U.box 11 0, U.box 10 0, U.box 7 0, U.box 12 0, U.box 8 0], U.fn 82 [] [U.box 17 0, U.box 16 0, U.box 13 0, U.box 18 0, U.box 14 0]]]) (.cons rfl (.cons rfl (.cons rfl (.nil rfl)))) rfl fun fr => ?_
  refine k_seq ?_
  refine k_seq (k_region ?_)
  refine o_move rfl ?_
  refine o_neq rfl rfl rfl ?_
  refine o_nil ?_
  refine k_cF rfl rfl ?_
  refine k_skip ?_
  refine k_seq (k_region ?_)
  refine o_loadN rfl rfl rfl sh73 rfl ?_
  refine o_move rfl ?_
  refine o_callW rfl (strD hi hk h (Memo.nil _ _)) (.lrefl _) (fun u st1 hM => ?_)
  obtain ⟨rfl, es, he, rfl⟩ := hM
  refine o_call rfl (ret55 hi _) (.lrefl _) ?_
  refine o_extract rfl rfl rfl ?_
  refine o_extract rfl rfl rfl ?_
  refine o_assign rfl ?_
  refine o_assign rfl ?_
  refine o_nil ?_
  refine k_ret ?_
  refine ⟨.inr rfl, _, .cons _ _ _ _ (.tmp 4) (.cons _ _ _ _ (.tmp 5) .nil), ?_⟩
  exact .refl _
def totS (s : Shop) (n : Nat) : Int := ((s.keys.take n).map (strokeR s)).foldl (· + ·) 0
theorem tot_succ {s : Shop} {n : Nat} {k : Tri} (h : s.keys[n]? = some k) : totS s (n + 1) = totS s n + strokeR s k := by
  unfold totS; rw [List.take_add_one, h, List.map_append, List.foldl_append]; rfl
def anyB (f : Nat → Bool) : Bool := f 0 || (f 1 || (f 2 || (f 3 || (f 4 || f 5))))
theorem neq96 (f : Nat → Bool) : binV Try.prog 96 .neq (valK (.agg (sixU f))) (valK (.agg (sixU fun _ => false))) = some (.bool (anyB f)) := by
  have h : ∀ a b c d e g : Bool, binV Try.prog 96 .neq (valK (.agg [.bool a, .bool b, .bool c, .bool d, .bool e, .bool g])) (valK (.agg (sixU fun _ => false))) = some (.bool (a || (b || (c || (d || (e || g)))))) := by
    intro a b c d e g
    cases a <;> cases b <;> cases c <;> cases d <;> cases e <;> cases g <;> kernel_rfl
  exact h _ _ _ _ _ _
set_option maxHeartbeats 4000000 in
theorem ret26 (hi : Off is) {s : Shop} (hk : SOk s) : RetP Try.prog is orc 26 [s.u] (if anyB (spB s) = true then .tup [.int .i64 0, .int .i64 4] else .tup [.int .i64 (totS s s.keys.length), .int .i64 0]) := by
  have hnk := hk.nk
  have hn := neq96 (spB s)
  refine ret_of body26 pure26 (hi 26 (by decide)) rfl rfl (dat_l1 (dat_shop s 5)) (by split <;> exact .inr ⟨_, rfl, dat_l2 (.int _ _ _) (.int _ _ _)⟩) ?_
  refine k_seq (k_region ?_)
  refine o_box rfl rfl ?_
  refine o_assign rfl ?_
  refine o_assign rfl ?_
  refine o_nil ?_
  refine k_seq (k_region ?_)
  refine o_loadN rfl rfl rfl sh27 rfl ?_
  refine askO hi hk rfl rfl (.lrefl _) ?_
  refine o_move rfl ?_
  refine o_extract rfl rfl rfl ?_
  refine o_extract rfl rfl rfl ?_
  refine o_alloc rfl ze73 ?_
  refine o_storeN rfl rfl sh73 rfl rfl rfl rfl rfl ?_
  refine o_assign rfl ?_
  refine o_nil ?_
  refine k_seq ?_
  refine k_seq (k_region ?_)
  refine o_move rfl ?_
  refine o_neq rfl rfl rfl ?_
  refine o_nil ?_
  refine k_gen [(4, U.box 19 0), (5, .int .i64 0), (14, U.bool (Decidable.decide (0 ≠ 0)))] ([SB.box (Shop.cs s), SB.box (Shop.cs s), SB.box (shopC s 7 13), SB.box (Shop.cs s), SB.box (shopC s (3 + 4) (3 + 10)), SB.box (shopC s (3 + 4) (3 + 10)), SB.box waysC, SB.box (Shop.cs6 s), SB.box (wayC Bool.true), SB.map [], SB.box [U.mp 9], SB.box [U.fn 75 [U.agg (Shop.cs6 s)] []], SB.box [fn82 (3 + 4)], SB.box (Shop.cs6 s), SB.box (wayC Bool.false), SB.map [], SB.box [U.mp 15], SB.box [U.fn 75 [U.agg (Shop.cs6 s)] []], SB.box [fn82 (3 + 10)], SB.box [U.lst Kd.ro 3 (trisU (Shop.tools s)), .int .i64 (Shop.flo s), .int .i64 (Shop.fhi s), U.lst Kd.ro 3 (trisU (Shop.keys s)), U.fn 82 [] [U.box 11 0, U.box 10 0, U.box 7 0, U.box 12 0, U.box 8 0], U.fn 82 [] [U.box 17 0, U.box 16 0, U.box 13 0, U.box 18 0, U.box 14 0]]]) (.cons rfl (.cons rfl (.cons rfl (.nil rfl)))) rfl fun fr => ?_
  refine k_cF rfl rfl ?_
  refine k_skip ?_
  refine k_seq ?_
  refine k_seq (k_region ?_)
  refine o_loadN rfl rfl rfl sh73 rfl ?_
  refine o_callW rfl (by
    have := wpc62 (orc := orc) hi hk (sr_nx s) (B2 := [.box 17 0, .box 16 0, .box 13 0, .box 18 0, .box 14 0]) (bd_82 (k := 20) (n := 13) (by decide)) [] [] (Memo.nil _ _) (fun x hx => by cases hx)
    rw [List.append_nil] at this
    exact this) (.lrefl _) (fun u st1 hM => ?_)
  obtain ⟨rfl, es, he, rfl⟩ := hM
  rw [List.append_nil]
  generalize anyB (spB s) = ab at hn ⊢
  cases ab with
  | true =>
    refine o_build rfl ze96 pl96 rfl rfl ?_
    refine o_binK rfl rfl rfl rfl rfl hn ?_
    refine o_nil ?_
    refine k_cT rfl rfl ?_
    refine k_seq (k_region ?_)
    refine o_assign rfl ?_
    refine o_assign rfl ?_
    refine o_nil ?_
    refine k_ret ?_
    refine ⟨.inr rfl, _, .cons _ _ _ _ (.tmp 2) (.cons _ _ _ _ (.tmp 3) .nil), ?_⟩
    exact .refl _
  | false =>
    refine o_build rfl ze96 pl96 rfl rfl ?_
    refine o_binK rfl rfl rfl rfl rfl hn ?_
    refine o_nil ?_
    refine k_cF rfl rfl ?_
    refine k_skip ?_
    refine k_seq (k_region ?_)
    refine o_assign rfl ?_
    refine o_nil ?_
    refine k_seq ?_
    refine k_seq (k_region ?_)
    refine o_faddr rfl rfl fld73_0 ?_
    refine o_faddr rfl rfl fld27_2 ?_
    refine o_load1 rfl rfl rfl sh25 rfl ?_
    refine o_len rfl ty25 rfl (List.length_map _) ?_
    refine o_move rfl ?_
    refine o_nil ?_
    refine k_block ?_
    refine k_loop (fun k st => ∃ (i : Nat) (es : List (U × U)), k + i = s.keys.length ∧ Memo s true es ∧ 0 ≤ totS s i ∧ totS s i ≤ 31 * i ∧ st.st = nxX s es ∧ Holds st [(4, .box 19 0), (6, .int .i64 (totS s i)), (23, .int .i64 s.keys.length), (24, .int .i64 i)]) (fun k st hI => ?_) s.keys.length _ ?_
    · obtain ⟨i, es, hki, he, ht0, ht1, hst, hs⟩ := hI
      refine k_gen _ _ hs hst fun fr => ?_
      refine k_seq (k_region ?_)
      refine o_lss rfl rfl rfl ?_
      refine o_nil ?_
      refine k_seq ?_
      refine k_cond rfl (fun h25 => ?_) (fun h25 => ?_)
      · refine k_skip ?_
        refine k_seq ?_
        refine k_block ?_
        refine k_seq (k_region ?_)
        refine o_move rfl ?_
        refine o_assign rfl ?_
        refine o_nil ?_
        refine k_region ?_
        refine o_move rfl ?_
        refine o_loadN rfl rfl rfl sh73 rfl ?_
        refine o_move rfl ?_
        have hil : i < s.keys.length := by have := of_decide_eq_true h25; omega
        obtain ⟨q, hq⟩ := hk_has hil
        have hts := tot_succ hq
        have hsb := stroke_b s q
        refine o_callW rfl (strD hi hk hq he) (.lrefl _) (fun u st1 hM => ?_)
        obtain ⟨rfl, es, he, rfl⟩ := hM
        refine o_add rfl rfl rfl (by unfold I64; omega) ?_
        refine o_assign rfl ?_
        refine o_nil ?_
        refine k_region ?_
        refine o_add rfl rfl rfl (by unfold I64; omega) ?_
        refine o_move rfl ?_
        refine o_nil ?_
        refine ⟨k - 1, by omega, i + 1, es, by omega, he, by omega, by omega, rfl, .cons rfl (.cons (by rw [hts]; rfl) (.cons rfl (.cons rfl (.nil rfl))))⟩
      · refine k_exit ?_
        refine k_seq (k_region ?_)
        refine o_move rfl ?_
        refine o_assign rfl ?_
        refine o_assign rfl ?_
        refine o_nil ?_
        refine k_ret ?_
        refine ⟨.inr rfl, _, .cons _ _ _ _ (.tmp 2) (.cons _ _ _ _ (.tmp 3) .nil), ?_⟩
        have hil : i = s.keys.length := by have := of_decide_eq_false h25; omega
        subst hil
        exact .refl _
    · exact ⟨0, es, by omega, he, Int.le_refl _, Int.le_refl _, rfl, .cons rfl (.cons rfl (.cons rfl (.cons rfl (.nil rfl))))⟩
def grB (last : Int) (m : Int) : List Int → Bool
  | [] => true
  | x :: r => if x ≤ last ∨ m ≤ x then false else grB x m r
theorem gr_range (f : Nat → Bool) (m : Int) (hf : ∀ i : Nat, f i = true → (i : Int) < m) : ∀ (n a : Nat) (last : Int), last < a → grB last m (((List.range' a n).filter f).map fun i : Nat => (i : Int)) = true := by
  intro n
  induction n with
  | zero => intro a last _; rfl
  | succ n ih =>
    intro a last h
    rw [List.range'_succ, List.filter_cons]
    by_cases e : f a = true
    · rw [if_pos e]
      show (if (a : Int) ≤ last ∨ m ≤ (a : Int) then false else grB a m _) = true
      have := hf a e
      rw [if_neg (by omega)]; exact ih (a + 1) a (by omega)
    · rw [if_neg e]; exact ih (a + 1) last (by omega)
theorem gr_lsB (s : Shop) : grB (-1) s.keys.length (lsB (spB s) 6) = true := by
  unfold lsB
  rw [List.range_eq_range']
  refine gr_range _ _ (fun i h => ?_) 6 0 (-1) (by decide)
  unfold spB at h
  cases e : s.keys[i]? with
  | none => rw [e] at h; cases h
  | some k => have := (List.getElem?_eq_some_iff.1 e).1; omega
theorem gr_drop {l : List Int} {i : Nat} {x last m : Int} (h : l[i]? = some x) : grB last m (l.drop i) = if x ≤ last ∨ m ≤ x then false else grB x m (l.drop (i + 1)) := by
  have hil := (List.getElem?_eq_some_iff.1 h).1
  rw [List.drop_eq_getElem_cons hil, (List.getElem?_eq_some_iff.1 h).2]; rfl
set_option maxHeartbeats 4000000 in
theorem ret41 (hi : Off is) (l : List Int) (m : Int) (hl : l.length ≤ 4096) : RetP Try.prog is orc 41 [.lst .ro 1 (intsU l), .int .i64 m] (.bool (grB (-1) m l)) := by
  refine ret_of body41 pure41 (hi 41 (by decide)) rfl rfl (dat_l2 (dat_ints 6 .ro (fun h => by cases h) 1 l) (.int _ _ _)) (.inl (.bool _ _)) ?_
  refine k_seq (k_region ?_)
  refine o_assign rfl ?_
  refine o_nil ?_
  refine k_seq (k_region ?_)
  refine o_assign rfl ?_
  refine o_nil ?_
  refine k_seq ?_
  refine k_seq (k_region ?_)
  refine o_assign rfl ?_
  refine o_nil ?_
  refine k_block ?_
  refine k_loop (fun k st => ∃ (i : Nat) (last : Int), k + i = l.length ∧ grB (-1) m l = grB last m (l.drop i) ∧ st.st = [] ∧ Holds st [(0, .lst .ro 1 (intsU l)), (1, .int .i64 m), (5, .int .i64 last), (6, .int .i64 i)]) (fun k st hI => ?_) l.length _ ?_
  · obtain ⟨i, last, hki, hg, hst, hs⟩ := hI
    refine k_gen _ _ hs hst fun fr => ?_
    refine k_seq ?_
    refine k_seq (k_region ?_)
    refine o_move rfl ?_
    refine o_move rfl ?_
    refine o_len rfl ty38 rfl (List.length_map _) ?_
    refine o_lss rfl rfl rfl ?_
    refine o_nil ?_
    refine k_cond rfl (fun h10 => ?_) (fun h10 => ?_)
    · refine k_skip ?_
      refine k_seq ?_
      refine k_block ?_
      refine k_seq ?_
      refine k_seq (k_region ?_)
      refine o_move rfl ?_
      refine o_move rfl ?_
      have hil : i < l.length := by have := of_decide_eq_true h10; omega
      obtain ⟨x, hx⟩ : ∃ x, l[i]? = some x := ⟨l[i], List.getElem?_eq_getElem hil⟩
      rw [gr_drop hx] at hg
      refine o_idx (u := .int .i64 x) rfl ty38 rfl rfl (Int.natCast_nonneg _) (by simp [hx]) cl3 ?_
      refine o_loadR1 rfl rfl sh3 rfl ?_
      refine o_move rfl ?_
      refine o_leq rfl rfl rfl ?_
      refine o_move rfl ?_
      refine o_guardX rfl rfl rfl rfl (fun h19 => ?_) (fun h19 => ?_)
      · refine o_move rfl ?_
        refine o_gD rfl rfl rfl rfl (by assumption) ?_
        refine o_move rfl ?_
        refine o_genA [(0, U.lst Kd.ro 1 (intsU l)), (1, .int .i64 m), (6, .int .i64 ↑i), (19, U.bool (Decidable.decide (x ≤ last))), (20, U.lst Kd.ro 1 (intsU l)), (21, .int .i64 ↑i)] [] ([]) (.cons rfl (.cons rfl (.cons rfl (.cons rfl (.cons rfl (.cons rfl (.nil rfl))))))) rfl rfl fun fr => ?_
        refine o_gD rfl rfl rfl rfl (by assumption) ?_
        refine o_genA [(0, U.lst Kd.ro 1 (intsU l)), (1, .int .i64 m), (6, .int .i64 ↑i), (19, U.bool (Decidable.decide (x ≤ last))), (20, U.lst Kd.ro 1 (intsU l)), (21, .int .i64 ↑i)] [] ([]) (.cons rfl (.cons rfl (.cons rfl (.cons rfl (.cons rfl (.cons rfl (.nil rfl))))))) rfl rfl fun fr => ?_
        refine o_idx (u := .int .i64 x) rfl ty38 rfl rfl (Int.natCast_nonneg _) (by simp [hx]) cl3 ?_
        refine o_gD rfl rfl rfl rfl (by assumption) ?_
        refine o_loadR1 rfl rfl sh3 rfl ?_
        refine o_gD rfl rfl rfl rfl (by assumption) ?_
        refine o_move rfl ?_
        refine o_gD rfl rfl rfl rfl (by assumption) ?_
        refine o_geq rfl rfl rfl ?_
        refine o_pickF rfl rfl (by assumption) ?_
        refine o_nil ?_
        refine k_gen [(0, U.lst Kd.ro 1 (intsU l)), (1, .int .i64 m), (6, .int .i64 ↑i), (20, U.lst Kd.ro 1 (intsU l)), (21, .int .i64 ↑i), (22, U.eref [.int .i64 x] 0), (23, .int .i64 x), (24, .int .i64 m), (25, U.bool (Decidable.decide (m ≤ x))), (26, U.bool (Decidable.decide (m ≤ x)))] ([]) (.cons rfl (.cons rfl (.cons rfl (.cons rfl (.cons rfl (.cons rfl (.cons rfl (.cons rfl (.cons rfl (.cons rfl (.nil rfl))))))))))) rfl fun fr => ?_
        refine k_cond rfl (fun h26 => ?_) (fun h26 => ?_)
        · refine k_seq (k_region ?_)
          refine o_assign rfl ?_
          refine o_nil ?_
          refine k_ret ?_
          refine ⟨.inr rfl, _, .cons _ _ _ _ (.tmp 4) .nil, ?_⟩
          have a1 := of_decide_eq_true h26
          rw [hg, if_pos (.inr (by omega))]; exact .refl _
        · refine k_skip ?_
          refine k_region ?_
          refine o_move rfl ?_
          refine o_move rfl ?_
          refine o_idx (u := .int .i64 x) rfl ty38 rfl rfl (Int.natCast_nonneg _) (by simp [hx]) cl3 ?_
          refine o_loadR1 rfl rfl sh3 rfl ?_
          refine o_assign rfl ?_
          refine o_nil ?_
          refine k_region ?_
          refine o_move rfl ?_
          refine o_add rfl rfl rfl (by unfold I64; omega) ?_
          refine o_assign rfl ?_
          refine o_nil ?_
          have a1 := of_decide_eq_false h26
          have a2 := of_decide_eq_false h19
          rw [if_neg (by omega)] at hg
          exact ⟨k - 1, by omega, i + 1, x, by omega, hg, rfl, .cons rfl (.cons rfl (.cons rfl (.cons rfl (.nil rfl))))⟩
      · refine o_gS rfl rfl rfl rfl (by assumption) ?_
        refine o_genA [(0, U.lst Kd.ro 1 (intsU l)), (1, .int .i64 m), (6, .int .i64 ↑i), (19, U.bool (Decidable.decide (x ≤ last))), (20, U.tup []), (21, U.tup [])] [] ([]) (.cons rfl (.cons rfl (.cons rfl (.cons rfl (.cons rfl (.cons rfl (.nil rfl))))))) rfl rfl fun fr => ?_
        refine o_gS rfl rfl rfl rfl (by assumption) ?_
        refine o_gS rfl rfl rfl rfl (by assumption) ?_
        refine o_gS rfl rfl rfl rfl (by assumption) ?_
        refine o_gS rfl rfl rfl rfl (by assumption) ?_
        refine o_pickT rfl rfl (by assumption) ?_
        refine o_nil ?_
        refine k_gen [(0, U.lst Kd.ro 1 (intsU l)), (1, .int .i64 m), (6, .int .i64 ↑i), (20, U.tup []), (21, U.tup []), (22, U.tup []), (23, U.tup []), (24, U.tup []), (25, U.tup []), (26, U.bool Bool.true)] ([]) (.cons rfl (.cons rfl (.cons rfl (.cons rfl (.cons rfl (.cons rfl (.cons rfl (.cons rfl (.cons rfl (.cons rfl (.nil rfl))))))))))) rfl fun fr => ?_
        refine k_cT rfl rfl ?_
        refine k_seq (k_region ?_)
        refine o_assign rfl ?_
        refine o_nil ?_
        refine k_ret ?_
        refine ⟨.inr rfl, _, .cons _ _ _ _ (.tmp 4) .nil, ?_⟩
        have a2 := of_decide_eq_true h19
        rw [hg, if_pos (.inl (by omega))]; exact .refl _
    · refine k_exit ?_
      refine k_seq (k_region ?_)
      refine o_assign rfl ?_
      refine o_nil ?_
      refine k_ret ?_
      refine ⟨.inr rfl, _, .cons _ _ _ _ (.tmp 4) .nil, ?_⟩
      have hil : i = l.length := by have := of_decide_eq_false h10; omega
      subst hil
      rw [hg, List.drop_length]; exact .refl _
  · exact ⟨0, -1, by omega, rfl, rfl, .cons rfl (.cons rfl (.cons rfl (.cons rfl (.nil rfl))))⟩
theorem idx_at {l : List Int} {n : Int} : ∀ {i : Nat}, l[i]? = some n → n ∉ l.take i → l.idxOf n = i := by
  induction l with
  | nil => intro i h; cases h
  | cons x l ih =>
    intro i h h2
    cases i with
    | zero => cases h; simp
    | succ i =>
      rw [List.take_succ_cons, List.mem_cons, not_or] at h2
      rw [List.idxOf_cons, show (x == n) = false by simpa using fun e => h2.1 e.symm]; simp [ih h h2.2]
def whI (l : List Int) (n : Int) : Int := if n ∈ l then (l.idxOf n : Int) else -1
theorem wh_iff (l : List Int) (n : Int) : 0 ≤ whI l n ↔ n ∈ l := by
  unfold whI; split
  · exact ⟨fun _ => by assumption, fun _ => by omega⟩
  · exact ⟨fun h => absurd h (by omega), fun h => absurd h (by assumption)⟩
set_option maxHeartbeats 4000000 in
theorem ret42 (hi : Off is) (l : List Int) (n : Int) (hl : l.length ≤ 4096) : RetP Try.prog is orc 42 [.lst .ro 1 (intsU l), .int .i64 n] (.int .i64 (whI l n)) := by
  refine ret_of body42 pure42 (hi 42 (by decide)) rfl rfl (dat_l2 (dat_ints 6 .ro (fun h => by cases h) 1 l) (.int _ _ _)) (.inl (.int _ _ _)) ?_
  refine k_seq (k_region ?_)
  refine o_assign rfl ?_
  refine o_nil ?_
  refine k_seq ?_
  refine k_seq (k_region ?_)
  refine o_assign rfl ?_
  refine o_nil ?_
  refine k_block ?_
  refine k_loop (fun k st => ∃ (i : Nat), k + i = l.length ∧ n ∉ l.take i ∧ st.st = [] ∧ Holds st [(0, .lst .ro 1 (intsU l)), (1, .int .i64 n), (5, .int .i64 i)]) (fun k st hI => ?_) l.length _ ?_
  · obtain ⟨i, hki, hno, hst, hs⟩ := hI
    refine k_gen _ _ hs hst fun fr => ?_
    refine k_seq ?_
    refine k_seq (k_region ?_)
    refine o_move rfl ?_
    refine o_move rfl ?_
    refine o_len rfl ty38 rfl (List.length_map _) ?_
    refine o_lss rfl rfl rfl ?_
    refine o_nil ?_
    refine k_cond rfl (fun h9 => ?_) (fun h9 => ?_)
    · refine k_skip ?_
      refine k_seq ?_
      refine k_block ?_
      refine k_seq (k_region ?_)
      refine o_move rfl ?_
      refine o_move rfl ?_
      have hil : i < l.length := by have := of_decide_eq_true h9; omega
      obtain ⟨x, hx⟩ : ∃ x, l[i]? = some x := ⟨l[i], List.getElem?_eq_getElem hil⟩
      refine o_idx (u := .int .i64 x) rfl ty38 rfl rfl (Int.natCast_nonneg _) (by simp [hx]) cl3 ?_
      refine o_loadR1 rfl rfl sh3 rfl ?_
      refine o_move rfl ?_
      refine o_eql rfl rfl rfl ?_
      refine o_nil ?_
      refine k_cond rfl (fun h17 => ?_) (fun h17 => ?_)
      · refine k_seq (k_region ?_)
        refine o_move rfl ?_
        refine o_assign rfl ?_
        refine o_nil ?_
        refine k_ret ?_
        refine ⟨.inr rfl, _, .cons _ _ _ _ (.tmp 4) .nil, ?_⟩
        have h17 := of_decide_eq_true h17
        subst h17
        rw [show whI l x = (i : Int) by unfold whI; rw [if_pos (List.mem_of_getElem? hx), idx_at hx hno]]; exact .refl _
      · refine k_skip ?_
        refine k_region ?_
        refine o_move rfl ?_
        refine o_add rfl rfl rfl (by unfold I64; omega) ?_
        refine o_assign rfl ?_
        refine o_nil ?_
        have h17 := of_decide_eq_false h17
        refine ⟨k - 1, by omega, i + 1, by omega, ?_, rfl, .cons rfl (.cons rfl (.cons rfl (.nil rfl)))⟩
        rw [List.take_add_one, hx]; simp; exact ⟨hno, fun e => h17 e.symm⟩
    · refine k_exit ?_
      refine k_seq (k_region ?_)
      refine o_assign rfl ?_
      refine o_nil ?_
      refine k_ret ?_
      refine ⟨.inr rfl, _, .cons _ _ _ _ (.tmp 4) .nil, ?_⟩
      have hil : i = l.length := by have := of_decide_eq_false h9; omega
      subst hil
      rw [List.take_length] at hno
      rw [show whI l n = -1 from if_neg hno]; exact .refl _
  · exact ⟨0, by omega, by simp, rfl, .cons rfl (.cons rfl (.cons rfl (.nil rfl)))⟩
end Go.Proofs.Ytdahbimllmapkaa.raspEnough
