/- forge's functions, the specification's and the law's, by the logic of trees: what each gives back for all that it may be given. -/
import Derived.Test.YtoldkckmenjknaaGreatVamFewest1
namespace Go.Proofs.YtoldkckmenjknaaGreat.forgeFewest
open Vam
set_option linter.unusedVariables false
set_option linter.unusedSimpArgs false
set_option linter.constructorNameAsVariable false
variable {is : FuncId → Bool} {orc : Known}
noncomputable def b92 : Code := (Tryz.f92.body).getD .skip
theorem body92 : bodyOf Tryz.prog 92 = some (5, b92, [.tmp 2]) := by kernel_rfl
theorem pure92 : pureFn Tryz.prog 92 = true := by kernel_rfl
noncomputable def b93 : Code := (Tryz.f93.body).getD .skip
theorem body93 : bodyOf Tryz.prog 93 = some (8, b93, [.tmp 4]) := by kernel_rfl
theorem pure93 : pureFn Tryz.prog 93 = true := by kernel_rfl
noncomputable def b94 : Code := (Tryz.f94.body).getD .skip
theorem body94 : bodyOf Tryz.prog 94 = some (5, b94, [.tmp 2]) := by kernel_rfl
theorem pure94 : pureFn Tryz.prog 94 = true := by kernel_rfl
noncomputable def b95 : Code := (Tryz.f95.body).getD .skip
theorem body95 : bodyOf Tryz.prog 95 = some (8, b95, [.tmp 4]) := by kernel_rfl
theorem pure95 : pureFn Tryz.prog 95 = true := by kernel_rfl
theorem cl116 : Program.cellsOf Tryz.prog 116 = 1 := by kernel_rfl
theorem sh116 : shOf Tryz.prog 116 = .one := by kernel_rfl
theorem ty134 : tyOf Tryz.prog 134 = .slice 116 := by kernel_rfl
noncomputable def b96 : Code := (Tryz.f96.body).getD .skip
theorem body96 : bodyOf Tryz.prog 96 = some (17, b96, [.tmp 2]) := by kernel_rfl
theorem pure96 : pureFn Tryz.prog 96 = true := by kernel_rfl
theorem pl113 : plcOf Tryz.prog 113 = some [(0, 1), (1, 1)] := by kernel_rfl
theorem pl114 : plcOf Tryz.prog 114 = some [(0, 2), (2, 2)] := by kernel_rfl
theorem sh114 : shOf Tryz.prog 114 = .many 4 := by kernel_rfl
theorem ze113 : zeroL Tryz.prog 113 = some ((.cons .nilf (.cons .nilf .nil)) : V) := by kernel_rfl
theorem ze114 : zeroL Tryz.prog 114 = some ((.cons .nilf (.cons .nilf (.cons .nilf (.cons .nilf .nil)))) : V) := by kernel_rfl
noncomputable def b79 : Code := (Tryz.f79.body).getD .skip
theorem body79 : bodyOf Tryz.prog 79 = some (4, b79, [.cell 0 114]) := by kernel_rfl
theorem pure79 : pureFn Tryz.prog 79 = false := by kernel_rfl
theorem fld113_0 : fieldOf Tryz.prog 113 0 = some (0, 110) := by kernel_rfl
theorem sh110 : shOf Tryz.prog 110 = .one := by kernel_rfl
theorem ty132 : tyOf Tryz.prog 132 = .array 4 116 := by kernel_rfl
theorem ze132 : zeroL Tryz.prog 132 = some ((.cons (.int .i64 0) (.cons (.int .i64 0) (.cons (.int .i64 0) (.cons (.int .i64 0) .nil)))) : V) := by kernel_rfl
noncomputable def b80 : Code := (Tryz.f80.body).getD .skip
theorem body80 : bodyOf Tryz.prog 80 = some (33, b80, [.tmp 6]) := by kernel_rfl
theorem pure80 : pureFn Tryz.prog 80 = false := by kernel_rfl
theorem Bd.mono {n m : Nat} {u : U} (h : Bd n u) (hm : n ≤ m) : Bd m u := fun φ S v hv => (h φ S v hv).mono (fun a b e => BMap.cut_of (by have := (BMap.cut_some e).1; omega) (BMap.cut_some e).2) S.le_refl
theorem BdS.mono {n m : Nat} {x : SB} (h : BdS n x) (hm : n ≤ m) : BdS m x := by
  cases x with
  | box cs => exact fun c hc => Bd.mono (h c hc) hm
  | froz cs => exact fun c hc => Bd.mono (h c hc) hm
  | map es => exact fun p hp => ⟨Bd.mono (h p hp).1 hm, Bd.mono (h p hp).2 hm⟩
  | loop q l => exact fun i => Bd.mono (h i) hm
  | dead => trivial
def Ext (l : List SB) : Prop := ∀ x ∈ l, ∃ cs, x = .box cs ∧ ∀ c ∈ cs, NB c
theorem Ext.nil : Ext [] := fun _ h => by cases h
theorem Ext.snoc {l : List SB} {cs : List U} (h : Ext l) (hc : ∀ c ∈ cs, NB c) : Ext (l ++ [.box cs]) := fun x hx => by
  rcases List.mem_append.1 hx with hx | hx
  · exact h x hx
  · rcases List.mem_singleton.1 hx with rfl; exact ⟨cs, rfl, hc⟩
theorem Ext.app {l m : List SB} (h : Ext l) (k : Ext m) : Ext (l ++ m) := fun x hx => by
  rcases List.mem_append.1 hx with hx | hx
  · exact h x hx
  · exact k x hx
theorem Ext.bd {l : List SB} (h : Ext l) (n : Nat) : ∀ x ∈ l, BdS n x := fun x hx => by
  obtain ⟨cs, rfl, k⟩ := h x hx
  exact fun c hc => (k c hc).bd n
theorem at_pre {l m : List SB} {i : Nat} {x : SB} (h : l[i]? = some x) : (l ++ m)[i]? = some x := by
  rw [List.getElem?_append_left (List.getElem?_eq_some_iff.1 h).1, h]
theorem set_end (l : List SB) (x y : SB) : (l ++ [x]).set l.length y = l ++ [y] := by
  rw [List.set_append_right _ _ (Nat.le_refl _), Nat.sub_self]; rfl
abbrev pk {α : Type} (s : Bool) (x y : α) : α := match s with | true => x | false => y
abbrev enU (s : Bool) : U := .fn (pk s 94 92) [] []
abbrev keU (s : Bool) : U := .fn (pk s 95 93) [] []
abbrev endI (s : Bool) (lo hi : Int) : Int := pk s hi lo
theorem ret92 (hi : Off is) (a b : Int) : RetP Tryz.prog is orc 92 [spanU a b] (.int .i64 a) := by
  refine ret_of body92 pure92 (hi 92 (by decide)) rfl rfl (dat_l1 (dat_span a b 6)) (.inl (.int _ _ _)) ?_
  refine k_seq (k_region ?_)
  refine o_box rfl rfl ?_
  refine o_assign rfl ?_
  refine o_nil ?_
  refine k_gen [(1, U.box 0 0)] ([SB.box [.int .i64 a, .int .i64 b]]) (.cons rfl (.nil rfl)) rfl fun fr => ?_
  refine k_seq (k_region ?_)
  refine o_faddr rfl rfl fld24_0 ?_
  refine o_load1 rfl rfl rfl sh3 rfl ?_
  refine o_assign rfl ?_
  refine o_nil ?_
  refine k_ret ?_
  refine ⟨.inr rfl, _, .cons _ _ _ _ (.tmp 2) .nil, ?_⟩
  exact .refl _
theorem ret94 (hi : Off is) (a b : Int) : RetP Tryz.prog is orc 94 [spanU a b] (.int .i64 b) := by
  refine ret_of body94 pure94 (hi 94 (by decide)) rfl rfl (dat_l1 (dat_span a b 6)) (.inl (.int _ _ _)) ?_
  refine k_seq (k_region ?_)
  refine o_box rfl rfl ?_
  refine o_assign rfl ?_
  refine o_nil ?_
  refine k_gen [(1, U.box 0 0)] ([SB.box [.int .i64 a, .int .i64 b]]) (.cons rfl (.nil rfl)) rfl fun fr => ?_
  refine k_seq (k_region ?_)
  refine o_faddr rfl rfl fld24_1 ?_
  refine o_load1 rfl rfl rfl sh3 rfl ?_
  refine o_assign rfl ?_
  refine o_nil ?_
  refine k_ret ?_
  refine ⟨.inr rfl, _, .cons _ _ _ _ (.tmp 2) .nil, ?_⟩
  exact .refl _
theorem retEn (hi : Off is) (s : Bool) (a b : Int) : RetP Tryz.prog is orc (pk s 94 92) [spanU a b] (.int .i64 (endI s a b)) := by
  cases s
  · exact ret92 hi a b
  · exact ret94 hi a b
theorem ret93 (hi : Off is) (a b : Int) : RetP Tryz.prog is orc 93 [.int .i64 a, .int .i64 b] (.bool (decide (a ≥ b))) := by
  refine ret_of body93 pure93 (hi 93 (by decide)) rfl rfl (dat_l2 (.int _ _ _) (.int _ _ _)) (.inl (.bool _ _)) ?_
  refine k_seq (k_region ?_)
  refine o_assign rfl ?_
  refine o_nil ?_
  refine k_seq (k_region ?_)
  refine o_move rfl ?_
  refine o_move rfl ?_
  refine o_geq rfl rfl rfl ?_
  refine o_assign rfl ?_
  refine o_nil ?_
  refine k_ret ?_
  refine ⟨.inr rfl, _, .cons _ _ _ _ (.tmp 4) .nil, ?_⟩
  exact .refl _
theorem ret95 (hi : Off is) (a b : Int) : RetP Tryz.prog is orc 95 [.int .i64 a, .int .i64 b] (.bool (decide (a ≤ b))) := by
  refine ret_of body95 pure95 (hi 95 (by decide)) rfl rfl (dat_l2 (.int _ _ _) (.int _ _ _)) (.inl (.bool _ _)) ?_
  refine k_seq (k_region ?_)
  refine o_assign rfl ?_
  refine o_nil ?_
  refine k_seq (k_region ?_)
  refine o_move rfl ?_
  refine o_move rfl ?_
  refine o_leq rfl rfl rfl ?_
  refine o_assign rfl ?_
  refine o_nil ?_
  refine k_ret ?_
  refine ⟨.inr rfl, _, .cons _ _ _ _ (.tmp 4) .nil, ?_⟩
  exact .refl _
def keepsI (s : Bool) (has asked : Int) : Bool := pk s (decide (has ≤ asked)) (decide (has ≥ asked))
theorem retKe (hi : Off is) (s : Bool) (a b : Int) : RetP Tryz.prog is orc (pk s 95 93) [.int .i64 a, .int .i64 b] (.bool (keepsI s a b)) := by
  cases s
  · exact ret93 hi a b
  · exact ret95 hi a b
theorem nb_fn0 (f : Nat) : NB (.fn f [] []) := NB.fn (fun u hu => by cases hu) (fun u hu => by cases hu)
abbrev sidesU : U := .agg [.fn 92 [] [], .fn 93 [] [], .fn 94 [] [], .fn 95 [] []]
theorem nb_sides : NB sidesU := NB.agg fun c hc => by
  simp only [List.mem_cons, List.not_mem_nil, or_false] at hc
  rcases hc with rfl | rfl | rfl | rfl <;> exact nb_fn0 _
theorem ret79 (hi : Off is) : RetP Tryz.prog is orc 79 [] sidesU := by
  refine ret_of_shared body79 pure79 rfl rfl (fun u hu => by cases hu) nb_sides ?_
  refine k_seq (k_region ?_)
  refine o_alloc rfl ze114 ?_
  refine o_nil ?_
  refine k_gen [(0, U.box 0 0)] ([SB.box [U.nilf, U.nilf, U.nilf, U.nilf]]) (.cons rfl (.nil rfl)) rfl fun fr => ?_
  refine k_seq (k_region ?_)
  refine o_build rfl ze113 pl113 rfl rfl ?_
  refine o_build rfl ze113 pl113 rfl rfl ?_
  refine o_build rfl ze114 pl114 rfl rfl ?_
  refine o_storeN rfl rfl sh114 rfl rfl rfl rfl rfl ?_
  refine o_nil ?_
  refine k_ret ?_
  refine ⟨.inr rfl, _, .cons _ _ _ _ (.cellN 0 114 _ _ _ _ rfl rfl sh114 rfl) .nil, ?_⟩
  exact .refl _
set_option maxHeartbeats 4000000 in
theorem ret96 (hi : Off is) (l : List Int) (hl : l.length ≤ 64) (hx : ∀ x ∈ l, 0 ≤ x ∧ x ≤ 100000) : RetP Tryz.prog is orc 96 [.lst .ro 1 (intsU l)] (.int .i64 (sumI l)) := by
  refine ret_of body96 pure96 (hi 96 (by decide)) rfl rfl (dat_l1 (dat_ints 6 .ro (fun h => by cases h) 1 l)) (.inl (.int _ _ _)) ?_
  refine k_seq (k_region ?_)
  refine o_assign rfl ?_
  refine o_nil ?_
  refine k_seq (k_region ?_)
  refine o_assign rfl ?_
  refine o_nil ?_
  refine k_seq ?_
  refine k_seq (k_region ?_)
  refine o_move rfl ?_
  refine o_len rfl ty134 rfl rfl ?_
  refine o_move rfl ?_
  refine o_nil ?_
  refine k_block ?_
  refine k_loop (fun k s => ∃ n : Nat, k + n = l.length ∧ (0 ≤ sumI (l.take n) ∧ sumI (l.take n) ≤ 100000 * n) ∧ Holds s [(3, .int .i64 (sumI (l.take n))), (6, .lst .ro 1 (intsU l)), (7, .int .i64 (intsU l).length), (8, .int .i64 n)]) (fun k s hI => ?_) l.length _ ?_
  · obtain ⟨n, hk, hb, hs⟩ := hI
    rw [hs.eq]
    refine k_seq (k_region ?_)
    refine o_lss rfl rfl rfl ?_
    refine o_nil ?_
    refine k_seq ?_
    refine k_cond rfl (fun h1 => ?_) (fun h1 => ?_)
    · have h3' : n < l.length := by
        have := of_decide_eq_true h1
        simp at this; omega
      obtain ⟨q, hq⟩ : ∃ q, l[n]? = some q := ⟨l[n], List.getElem?_eq_getElem h3'⟩
      have hqb := hx q (List.mem_of_getElem? hq)
      refine k_skip ?_
      refine k_seq ?_
      refine k_block ?_
      refine k_seq (k_region ?_)
      refine o_idx (u := .int .i64 q) rfl ty134 rfl rfl (Int.natCast_nonneg n) (by simp [hq]) cl116 ?_
      refine o_loadR1 rfl rfl sh116 rfl ?_
      refine o_assign rfl ?_
      refine o_nil ?_
      refine k_region ?_
      refine o_move rfl ?_
      refine o_move rfl ?_
      refine o_add rfl rfl rfl (by unfold I64; omega) ?_
      refine o_assign rfl ?_
      refine o_nil ?_
      refine k_region ?_
      refine o_add rfl rfl rfl (by unfold I64; omega) ?_
      refine o_move rfl ?_
      refine o_nil ?_
      exact ⟨k - 1, by omega, n + 1, by omega, (by rw [sum_take hq]; omega), .cons (congrArg (U.int .i64) (sum_take hq).symm) (.cons rfl (.cons rfl (.cons rfl (.nil rfl))))⟩
    · refine k_exit ?_
      refine k_seq (k_region ?_)
      refine o_move rfl ?_
      refine o_assign rfl ?_
      refine o_nil ?_
      refine k_ret ?_
      refine ⟨.inr rfl, _, .cons _ _ _ _ (.tmp 2) .nil, ?_⟩
      have h3' : n = l.length := by
        have := of_decide_eq_false h1
        simp at this; omega
      rw [h3', List.take_length] at *; exact .refl _
  · exact ⟨0, rfl, ⟨Int.le_refl 0, Int.le_refl 0⟩, .cons rfl (.cons rfl (.cons rfl (.cons rfl (.nil rfl))))⟩
structure Qd where
  a : Int
  b : Int
  c : Int
  d : Int
def Qd.at (q : Qd) (i : Nat) : Int := match i with | 0 => q.a | 1 => q.b | 2 => q.c | _ => q.d
abbrev Qd.cs (q : Qd) : List U := [.int .i64 q.a, .int .i64 q.b, .int .i64 q.c, .int .i64 q.d]
abbrev Qd.u (q : Qd) : U := .agg q.cs
theorem nb_qd (q : Qd) : ∀ c ∈ q.cs, NB c := fun c hc => by
  simp only [List.mem_cons, List.not_mem_nil, or_false] at hc
  rcases hc with rfl | rfl | rfl | rfl <;> exact NB.int _ _
theorem qd_at (q : Qd) {i : Nat} (h : i < 4) : q.cs[i]? = some (.int .i64 (q.at i)) := by
  have e : i = 0 ∨ i = 1 ∨ i = 2 ∨ i = 3 := by omega
  rcases e with rfl | rfl | rfl | rfl <;> rfl
def ltI (b : Bk) (s : Bool) (i : Nat) : Int := ((b.lots[i]?).map fun q : Tri => endI s q.b q.c).getD 0
def tinP (b : Bk) (s : Bool) (m : Qd) (n i : Nat) : Int := if i < n then m.at i * ltI b s i else 0
abbrev tinL (b : Bk) (s : Bool) (m : Qd) (n : Nat) : List U := [.int .i64 (tinP b s m n 0), .int .i64 (tinP b s m n 1), .int .i64 (tinP b s m n 2), .int .i64 (tinP b s m n 3)]
def tinI (b : Bk) (s : Bool) (m : Qd) : Int := m.a * ltI b s 0 + m.b * ltI b s 1 + m.c * ltI b s 2 + m.d * ltI b s 3
theorem tin_set (b : Bk) (s : Bool) (m : Qd) {n : Nat} (hn : n < 4) : (tinL b s m n).set n (.int .i64 (m.at n * ltI b s n)) = tinL b s m (n + 1) := by
  have e : n = 0 ∨ n = 1 ∨ n = 2 ∨ n = 3 := by omega
  rcases e with rfl | rfl | rfl | rfl <;> simp [tinL, tinP]
structure QOk (q : Qd) : Prop where
  a : 0 ≤ q.a ∧ q.a ≤ 24
  b : 0 ≤ q.b ∧ q.b ≤ 24
  c : 0 ≤ q.c ∧ q.c ≤ 24
  d : 0 ≤ q.d ∧ q.d ≤ 24
theorem QOk.at {q : Qd} (h : QOk q) (i : Nat) : 0 ≤ q.at i ∧ q.at i ≤ 24 := by
  match i with
  | 0 => exact h.a
  | 1 => exact h.b
  | 2 => exact h.c
  | _ + 3 => exact h.d
theorem lt_b {b : Bk} (hb : Ok b) (s : Bool) (i : Nat) : 0 ≤ ltI b s i ∧ ltI b s i ≤ 1000 := by
  unfold ltI
  cases h : b.lots[i]? with
  | none => simp
  | some q =>
    have := hb.lots q (List.mem_of_getElem? h)
    cases s
    · show 0 ≤ q.b ∧ q.b ≤ 1000; omega
    · show 0 ≤ q.c ∧ q.c ≤ 1000; omega
theorem lt_out {b : Bk} {s : Bool} {i : Nat} (h : b.lots.length ≤ i) : ltI b s i = 0 := by
  unfold ltI; rw [List.getElem?_eq_none h]; rfl
theorem mul_qb {x y : Int} (hx : 0 ≤ x ∧ x ≤ 24) (hy : 0 ≤ y ∧ y ≤ 1000) : 0 ≤ x * y ∧ x * y ≤ 24000 := by
  refine ⟨Int.mul_nonneg hx.1 hy.1, ?_⟩
  have h1 := Int.mul_le_mul hx.2 hy.2 hy.1 (by decide)
  omega
theorem tinP_b {b : Bk} (hb : Ok b) (s : Bool) {m : Qd} (hm : QOk m) (n i : Nat) : 0 ≤ tinP b s m n i ∧ tinP b s m n i ≤ 24000 := by
  unfold tinP; split
  · exact mul_qb (hm.at i) (lt_b hb s i)
  · omega
theorem tinP_all (b : Bk) (s : Bool) (m : Qd) (i : Nat) : tinP b s m b.lots.length i = m.at i * ltI b s i := by
  unfold tinP; split
  · rfl
  · rw [lt_out (by omega), Int.mul_zero]
theorem dat_bkN (b : Bk) (n k : Nat) : Dat (k + 3) (.agg (bkN b n)) := .agg _ _ fun c hc => by
  simp only [List.mem_cons, List.not_mem_nil, or_false] at hc
  rcases hc with rfl | rfl | rfl | rfl | rfl | rfl | rfl | rfl | rfl | rfl | rfl | rfl | rfl | rfl | rfl | rfl | rfl | rfl | rfl <;> first | exact .int _ _ _ | exact dat_tris _ _ (fun h => by cases h) _ | exact dat_twos _ _ (fun h => by cases h) _ | exact .lst _ _ _ _ (fun h => by cases h) (fun c hc => by cases hc)
theorem nb_side (s : Bool) : NB (.agg [enU s, keU s]) := NB.agg fun c hc => by
  simp only [List.mem_cons, List.not_mem_nil, or_false] at hc
  rcases hc with rfl | rfl <;> exact nb_fn0 _
theorem no_agg (cs : List U) : NoOwn (.agg cs) := NoOwn.of (by intro z es h; cases h)
set_option maxHeartbeats 4000000 in
theorem ret80 (hi : Off is) {b : Bk} (hb : Ok b) (n0 : Nat) {m : Qd} (hm : QOk m) (s : Bool) : RetP Tryz.prog is orc 80 [.agg (bkN b n0), m.u, .agg [enU s, keU s]] (.int .i64 (tinI b s m)) := by
  refine ret_of_shared body80 pure80 rfl rfl (by
    intro u hu
    simp only [List.mem_cons, List.not_mem_nil, or_false] at hu
    rcases hu with rfl | rfl | rfl
    · exact ⟨(dat_bkN b n0 6).nb, no_agg _⟩
    · exact ⟨NB.agg (nb_qd m), no_agg _⟩
    · exact ⟨nb_side s, no_agg _⟩) (NB.int _ _) ?_
  refine k_seq (k_region ?_)
  refine o_box rfl rfl ?_
  refine o_box rfl rfl ?_
  refine o_box rfl rfl ?_
  refine o_assign rfl ?_
  refine o_nil ?_
  refine k_gen [(3, U.box 0 0), (4, U.box 1 0), (5, U.box 2 0)] ([SB.box [U.lst Kd.ro 3 (trisU (Bk.lots b)), .int .i64 (Bk.tlo b), .int .i64 (Bk.thi b), .int .i64 (Bk.thick b), .int .i64 (Bk.crack b), .int .i64 (Bk.glo b), .int .i64 (Bk.ghi b), U.lst Kd.ro 2 (twosU (Bk.thins b)), .int .i64 (Bk.hot b), .int .i64 (Bk.least b), .int .i64 (Bk.clo b), .int .i64 (Bk.chi b), .int .i64 (Bk.coal b), U.lst Kd.ro 3 (trisU (Bk.looks b)), .int .i64 (stk b n0 0), .int .i64 (stk b n0 1), .int .i64 (stk b n0 2), .int .i64 (stk b n0 3), U.lst Kd.full 0 []], SB.box [.int .i64 (Qd.a m), .int .i64 (Qd.b m), .int .i64 (Qd.c m), .int .i64 (Qd.d m)], SB.box [U.fn (pk s 94 92) [] [], U.fn (pk s 95 93) [] []]]) (.cons rfl (.cons rfl (.cons rfl (.nil rfl)))) rfl fun fr => ?_
  refine k_seq (k_region ?_)
  refine o_alloc rfl ze132 ?_
  refine o_nil ?_
  refine k_gen [(3, U.box 0 0), (4, U.box 1 0), (5, U.box 2 0), (7, U.box 3 0)] ([SB.box [U.lst Kd.ro 3 (trisU (Bk.lots b)), .int .i64 (Bk.tlo b), .int .i64 (Bk.thi b), .int .i64 (Bk.thick b), .int .i64 (Bk.crack b), .int .i64 (Bk.glo b), .int .i64 (Bk.ghi b), U.lst Kd.ro 2 (twosU (Bk.thins b)), .int .i64 (Bk.hot b), .int .i64 (Bk.least b), .int .i64 (Bk.clo b), .int .i64 (Bk.chi b), .int .i64 (Bk.coal b), U.lst Kd.ro 3 (trisU (Bk.looks b)), .int .i64 (stk b n0 0), .int .i64 (stk b n0 1), .int .i64 (stk b n0 2), .int .i64 (stk b n0 3), U.lst Kd.full 0 []], SB.box [.int .i64 (Qd.a m), .int .i64 (Qd.b m), .int .i64 (Qd.c m), .int .i64 (Qd.d m)], SB.box [U.fn (pk s 94 92) [] [], U.fn (pk s 95 93) [] []], SB.box [.int .i64 0, .int .i64 0, .int .i64 0, .int .i64 0]]) (.cons rfl (.cons rfl (.cons rfl (.cons rfl (.nil rfl))))) rfl fun fr => ?_
  refine k_seq ?_
  refine k_seq (k_region ?_)
  refine o_faddr rfl rfl fld60_0 ?_
  refine o_faddr rfl rfl fld28_0 ?_
  refine o_load1 rfl rfl rfl sh22 rfl ?_
  refine o_len rfl ty22 rfl (List.length_map _) ?_
  refine o_move rfl ?_
  refine o_nil ?_
  refine k_block ?_
  refine k_loop (fun k st => ∃ (i : Nat), k + i = b.lots.length ∧ (∃ e, st.st = [.box (bkN b n0), .box m.cs, .box [enU s, keU s], .box (tinL b s m i)] ++ e) ∧ Holds st [(4, .box 1 0), (5, .box 2 0), (7, .box 3 0), (12, .lst .ro 3 (trisU b.lots)), (13, .int .i64 b.lots.length), (14, .int .i64 i)]) (fun k st hI => ?_) b.lots.length _ ?_
  · obtain ⟨i, hki, ⟨e, hst⟩, hs⟩ := hI
    generalize hY : [SB.box (bkN b n0), .box m.cs, .box [enU s, keU s], .box (tinL b s m i)] ++ e = Y at hst
    have hY1 : Y[1]? = some (.box m.cs) := by rw [← hY]; rfl
    have hY2 : Y[2]? = some (.box [enU s, keU s]) := by rw [← hY]; rfl
    have hY3 : Y[3]? = some (.box (tinL b s m i)) := by rw [← hY]; rfl
    refine k_gen _ _ hs hst fun fr => ?_
    refine k_seq (k_region ?_)
    refine o_lss rfl rfl rfl ?_
    refine o_nil ?_
    refine k_seq ?_
    refine k_cond rfl (fun h15 => ?_) (fun h15 => ?_)
    · refine k_skip ?_
      refine k_seq ?_
      refine k_block ?_
      refine k_seq (k_region ?_)
      refine o_move rfl ?_
      have hil : i < b.lots.length := by have := of_decide_eq_true h15; omega
      obtain ⟨q, hq⟩ : ∃ q, b.lots[i]? = some q := ⟨b.lots[i], List.getElem?_eq_getElem hil⟩
      have hi4 : i < 4 := by have := hb.nl; omega
      have hma : m.cs[0 + (i : Int).toNat * 1]? = some (.int .i64 (m.at i)) := by rw [Int.toNat_natCast, Nat.mul_one, Nat.zero_add]; exact qd_at m hi4
      have hlt : ltI b s i = endI s q.b q.c := by unfold ltI; rw [hq]; rfl
      have hmb := mul_qb (hm.at i) (lt_b hb s i)
      rw [hlt] at hmb
      refine o_idx (u := (q).u) rfl ty22 rfl rfl (Int.natCast_nonneg _) (by simp [hq]) cl54 ?_
      refine o_loadRN rfl rfl sh54 rfl ?_
      refine o_alloc rfl ze54 ?_
      refine o_assign rfl ?_
      refine o_storeN rfl (at_new _ _) sh54 rfl rfl rfl rfl rfl ?_
      refine o_nil ?_
      refine k_gen [(4, U.box 1 0), (5, U.box 2 0), (7, U.box 3 0), (8, .int .i64 ↑i), (9, U.box (List.length Y) 0), (12, U.lst Kd.ro 3 (trisU (Bk.lots b))), (13, .int .i64 ↑(List.length (Bk.lots b))), (14, .int .i64 ↑i)] (Y ++ [SB.box [.int .i64 (Tri.a q), .int .i64 (Tri.b q), .int .i64 (Tri.c q)]]) (.cons rfl (.cons rfl (.cons rfl (.cons rfl (.cons rfl (.cons rfl (.cons rfl (.cons rfl (.nil rfl))))))))) (set_end _ _ _) fun fr => ?_
      refine k_draw [.plain, .plain, .plain, .read true, .plain, .read true, .plain, .read true, .quiet, .plain, .plain, .plain] (by kernel_rfl) (by kernel_rfl) (by kernel_rfl) ?_
      refine d_plain (o_move rfl (o_nil rfl)) ?_
      refine d_plain (o_move rfl (o_nil rfl)) ?_
      refine d_plain (o_idxA rfl ty57 rfl rfl (by omega) (by omega) cl3 (o_nil rfl)) ?_
      refine d_load rfl (o_load1 rfl rfl (by exact at_pre hY1) sh3 hma (o_nil rfl)) ?_
      refine d_plain (o_faddr rfl rfl fld113_0 (o_nil rfl)) ?_
      refine d_load rfl (o_load1 rfl rfl (by exact at_pre hY2) sh110 rfl (o_nil rfl)) ?_
      refine d_plain (o_faddr rfl rfl fld54_1 (o_nil rfl)) ?_
      refine d_load rfl (o_loadN rfl rfl (by exact at_new Y _) sh24 rfl (o_nil rfl)) ?_
      refine d_callVQ rfl rfl (retEn hi s q.b q.c) (.lrefl _) ?_
      refine d_plain (o_mul rfl rfl rfl (by unfold I64; omega) (o_nil rfl)) ?_
      refine d_plain (o_idxA rfl ty132 rfl rfl (by omega) (by omega) cl116 (o_nil rfl)) ?_
      refine d_plain (o_store1 rfl (by exact at_pre hY3) sh116 (by show Nat.blt (0 + (i : Int).toNat * 1) 4 = true; rw [Int.toNat_natCast, Nat.mul_one, Nat.blt_eq]; omega) rfl (o_nil rfl)) ?_
      refine d_nil ?_
      refine k_gen [(4, U.box 1 0), (5, U.box 2 0), (7, U.box 3 0), (12, U.lst Kd.ro 3 (trisU (Bk.lots b))), (13, .int .i64 ↑(List.length (Bk.lots b))), (14, .int .i64 ↑i)] (List.set (Y ++ [SB.box [.int .i64 (Tri.a q), .int .i64 (Tri.b q), .int .i64 (Tri.c q)]]) 3 (SB.box (List.set (tinL b s m i) (0 + Int.toNat ↑i * 1) (.int .i64 (Qd.at m i * endI s (Tri.b q) (Tri.c q)))))) (.cons rfl (.cons rfl (.cons rfl (.cons rfl (.cons rfl (.cons rfl (.nil rfl))))))) rfl fun fr => ?_
      refine k_region ?_
      refine o_add rfl rfl rfl (by unfold I64; omega) ?_
      refine o_move rfl ?_
      refine o_nil ?_
      refine ⟨k - 1, by omega, i + 1, by omega, ⟨e ++ [.box [.int .i64 q.a, .int .i64 q.b, .int .i64 q.c]], ?_⟩, .cons rfl (.cons rfl (.cons rfl (.cons rfl (.cons rfl (.cons rfl (.nil rfl))))))⟩
      subst hY
      show [SB.box (bkN b n0), .box m.cs, .box [enU s, keU s], .box ((tinL b s m i).set (0 + (i : Int).toNat * 1) (.int .i64 (m.at i * endI s q.b q.c)))] ++ (e ++ [_]) = _
      rw [Int.toNat_natCast, Nat.mul_one, Nat.zero_add, ← hlt, tin_set b s m hi4]
    · refine k_exit ?_
      refine k_seq (k_region ?_)
      have hil : i = b.lots.length := by have := of_decide_eq_false h15; omega
      subst hil
      refine o_sliceA (es := intsU [tinP b s m b.lots.length 0, tinP b s m b.lots.length 1, tinP b s m b.lots.length 2, tinP b s m b.lots.length 3]) rfl ty132 cl116 rfl rfl hY3 rfl (l1 := 0) (h1 := 4) (m1 := 4) rfl rfl rfl (.inl rfl) (by decide) (by decide) (by decide) rfl (by simp [cellsU]) rfl ?_
      refine o_call rfl (ret96 hi [tinP b s m b.lots.length 0, tinP b s m b.lots.length 1, tinP b s m b.lots.length 2, tinP b s m b.lots.length 3] (by show 4 ≤ 64; omega) (by intro x hx; simp only [List.mem_cons, List.not_mem_nil, or_false] at hx; rcases hx with rfl | rfl | rfl | rfl <;> (have := tinP_b hb s hm b.lots.length; exact ⟨by first | exact (this 0).1 | exact (this 1).1 | exact (this 2).1 | exact (this 3).1, by first | exact Int.le_trans (this 0).2 (by decide) | exact Int.le_trans (this 1).2 (by decide) | exact Int.le_trans (this 2).2 (by decide) | exact Int.le_trans (this 3).2 (by decide)⟩))) (.lrefl _) ?_
      refine o_assign rfl ?_
      refine o_nil ?_
      refine k_ret ?_
      refine ⟨.inr rfl, _, .cons _ _ _ _ (.tmp 6) .nil, ?_⟩
      rw [show tinI b s m = sumI [tinP b s m b.lots.length 0, tinP b s m b.lots.length 1, tinP b s m b.lots.length 2, tinP b s m b.lots.length 3] by
        rw [tinP_all, tinP_all, tinP_all, tinP_all]; show _ = 0 + m.a * _ + m.b * _ + m.c * _ + m.d * _; rw [Int.zero_add]; rfl]
      exact .refl _
  · exact ⟨0, by omega, ⟨[], rfl⟩, .cons rfl (.cons rfl (.cons rfl (.cons rfl (.cons rfl (.cons rfl (.nil rfl))))))⟩
noncomputable def b78 : Code := (Tryz.f78.body).getD .skip
theorem body78 : bodyOf Tryz.prog 78 = some (6, b78, [.tmp 4]) := by kernel_rfl
theorem pure78 : pureFn Tryz.prog 78 = false := by kernel_rfl
theorem pl57 : plcOf Tryz.prog 57 = some [(0, 1), (1, 1), (2, 1), (3, 1)] := by kernel_rfl
theorem sh130 : shOf Tryz.prog 130 = .one := by kernel_rfl
theorem ze130 : zeroL Tryz.prog 130 = some ((.cons .nilf .nil) : V) := by kernel_rfl
theorem ze57 : zeroL Tryz.prog 57 = some ((.cons (.int .i64 0) (.cons (.int .i64 0) (.cons (.int .i64 0) (.cons (.int .i64 0) .nil)))) : V) := by kernel_rfl
noncomputable def b90 : Code := (Tryz.f90.body).getD .skip
theorem body90 : bodyOf Tryz.prog 90 = some (10, b90, []) := by kernel_rfl
theorem pure90 : pureFn Tryz.prog 90 = false := by kernel_rfl
theorem sh108 : shOf Tryz.prog 108 = .one := by kernel_rfl
theorem sh57 : shOf Tryz.prog 57 = .many 4 := by kernel_rfl
noncomputable def b91 : Code := (Tryz.f91.body).getD .skip
theorem body91 : bodyOf Tryz.prog 91 = some (47, b91, [.tmp 9]) := by kernel_rfl
theorem pure91 : pureFn Tryz.prog 91 = false := by kernel_rfl
def eqQ (m n : Qd) : Bool := decide (m.a = n.a) && decide (m.b = n.b) && decide (m.c = n.c) && decide (m.d = n.d)
theorem eqQ_iff {m n : Qd} : eqQ m n = true ↔ m = n := by
  cases m; cases n
  simp [eqQ, and_assoc]
theorem eql_q (m n : Qd) : binV Tryz.prog 57 .eql (valK m.u) (valK n.u) = some (.bool (eqQ m n)) := by
  have h : binV Tryz.prog 57 .eql (valK m.u) (valK n.u) = opt none (fun x => some (V.bool x)) (Vam.cond (ieq m.a n.a) (Vam.cond (ieq m.b n.b) (Vam.cond (ieq m.c n.c) (Vam.cond (ieq m.d n.d) (some true) (some false)) (some false)) (some false)) (some false)) := by kernel_rfl
  rw [h, ieq_eq, ieq_eq, ieq_eq, ieq_eq]
  have key : ∀ x y : Int, (x == y) = decide (x = y) := fun x y => by by_cases h : x = y <;> simp [h]
  rw [key, key, key, key]
  unfold eqQ
  generalize decide (m.a = n.a) = p1
  generalize decide (m.b = n.b) = p2
  generalize decide (m.c = n.c) = p3
  generalize decide (m.d = n.d) = p4
  cases p1 <;> cases p2 <;> cases p3 <;> cases p4 <;> rfl
def zQ : Qd := ⟨0, 0, 0, 0⟩
def setQ (q : Qd) (k : Nat) (t : Int) : Qd := match k with | 0 => ⟨t, q.b, q.c, q.d⟩ | 1 => ⟨q.a, t, q.c, q.d⟩ | 2 => ⟨q.a, q.b, t, q.d⟩ | _ => ⟨q.a, q.b, q.c, t⟩
theorem setQ_ok {q : Qd} (h : QOk q) (k : Nat) {t : Int} (ht : 0 ≤ t ∧ t ≤ 24) : QOk (setQ q k t) := by
  unfold setQ
  split
  · exact ⟨ht, h.b, h.c, h.d⟩
  · exact ⟨h.a, ht, h.c, h.d⟩
  · exact ⟨h.a, h.b, ht, h.d⟩
  · exact ⟨h.a, h.b, h.c, ht⟩
theorem setQ_set (q : Qd) {k : Nat} (hk : k < 4) (t : Int) : q.cs.set k (.int .i64 t) = (setQ q k t).cs := by
  have e : k = 0 ∨ k = 1 ∨ k = 2 ∨ k = 3 := by omega
  rcases e with rfl | rfl | rfl | rfl <;> rfl
theorem setQ_setQ (q : Qd) (k : Nat) (t u : Int) : setQ (setQ q k t) k u = setQ q k u := by
  match k with
  | 0 => rfl
  | 1 => rfl
  | 2 => rfl
  | _ + 3 => rfl
def widM (L : Qd) (k : Nat) (more : Int) : Nat := (min (L.at k) more + 1).toNat
def lvM (L : Qd) : Nat → Nat → Qd → Int → List Qd
  | 0, _, m, more => if more ≠ 0 then [] else if eqQ m zQ = true then [] else [m]
  | r + 1, k, m, more => (List.range (widM L k more)).flatMap fun j : Nat => lvM L r (k + 1) (setQ m k j) (more - j)
def partM (L : Qd) (r k : Nat) (m : Qd) (more : Int) (j : Nat) : List Qd := (List.range j).flatMap fun j : Nat => lvM L r (k + 1) (setQ m k j) (more - j)
theorem partM_succ (L : Qd) (r k : Nat) (m : Qd) (more : Int) (j : Nat) : partM L r k m more (j + 1) = partM L r k m more j ++ lvM L r (k + 1) (setQ m k j) (more - j) := by
  unfold partM
  rw [List.range_succ, List.flatMap_append]
  simp
theorem partM_any {L : Qd} {r k : Nat} {m : Qd} {more : Int} {j : Nat} {p : Qd → Bool} (hj : j < widM L k more) (h : (lvM L r (k + 1) (setQ m k j) (more - j)).any p = true) : (lvM L (r + 1) k m more).any p = true := by
  show ((List.range (widM L k more)).flatMap _).any p = true
  rw [List.any_flatMap, List.any_eq_true]
  exact ⟨j, List.mem_range.2 hj, h⟩
structure SeenM (L : Qd) (N y bi fi a : Nat) (lp : Lp) (stop : Qd → Bool) (X : List Qd → List SB) (D : List SB) : Prop where
  len : ∀ l, (X l).length = N
  lenD : D.length = N
  bd : ∀ l, ∀ x ∈ X l, BdS N x
  bdD : ∀ x ∈ D, BdS N x
  by_ : ∀ l, (X l)[y]? = some (.box [.yld a])
  bb : ∀ l, (X l)[bi]? = some (.box L.cs)
  bf : ∀ l, (X l)[fi]? = some (.box [.fn 91 [] [.box y 0, .box bi 0, .box fi 0]])
  bl : ∀ l, (X l)[a]? = some (.loop .ready lp)
  own : ∀ i, NoOwn (lp.fr i)
  ps : ∃ p, lp.ps = [p] ∧ Nat.blt p 1024 = true
  run : ∀ (is : FuncId → Bool) (orc : Known), Off is → ∀ l q e, QOk q → Ext e → WpY Tryz.prog is orc a lp [q.u] (X l ++ e) fun u st' =>
    (stop q = false ∧ u = .bool true ∧ ∃ e', Ext e' ∧ st' = X (l ++ [q]) ++ (e ++ e')) ∨ (stop q = true ∧ u = .bool false ∧ ∃ e', Ext e' ∧ st' = D ++ (e ++ e'))
variable {L : Qd} {N y bi fi a : Nat} {lp : Lp} {stop : Qd → Bool} {X : List Qd → List SB} {D : List SB}
theorem SeenM.bd' (h : SeenM L N y bi fi a lp stop X D) {e : List SB} (he : Ext e) (l : List Qd) : ∀ x ∈ X l ++ e, BdS (N + e.length) x := fun x hx => by
  rcases List.mem_append.1 hx with hx | hx
  · exact BdS.mono (h.bd l x hx) (by omega)
  · exact he.bd _ x hx
theorem SeenM.bdD' (h : SeenM L N y bi fi a lp stop X D) {e : List SB} (he : Ext e) : ∀ x ∈ D ++ e, BdS (N + e.length) x := fun x hx => by
  rcases List.mem_append.1 hx with hx | hx
  · exact BdS.mono (h.bdD x hx) (by omega)
  · exact he.bd _ x hx
def outM (stop : Qd → Bool) (X : List Qd → List SB) (D : List SB) (l : List Qd) (e : List SB) (ms : List Qd) (u : U) (st' : List SB) : Prop :=
  (ms.any stop = false ∧ u = .bool true ∧ st' = X (l ++ ms) ++ e) ∨ (ms.any stop = true ∧ u = .bool false ∧ st' = D ++ e)
set_option maxHeartbeats 4000000 in
theorem wpc91z (hi : Off is) (h : SeenM L N y bi fi a lp stop X D) (m : Qd) (more : Int) (l : List Qd) (e : List SB) (hm : QOk m) (hmo : 0 ≤ more ∧ more ≤ 24) (he : Ext e) :
    WpC Tryz.prog is orc 91 [m.u, .int .i64 4, .int .i64 more, .box y 0, .box bi 0, .box fi 0] (X l ++ e) fun u st' => outM stop X D l e (lvM L 0 4 m more) u st' := by
  have hX1 := h.len l
  have hb1 := h.by_ l
  refine wpc_cut body91 pure91 rfl rfl ?_
  refine k_seq ?_
  refine k_region ?_
  refine o_box rfl rfl ?_
  refine o_assign rfl ?_
  refine o_nil ?_
  refine k_gen [(1, .int .i64 4), (2, .int .i64 more), (3, .box y 0), (4, .box bi 0), (5, .box fi 0), (6, .box (X l ++ e).length 0)] (X l ++ (e ++ [.box m.cs])) (.cons rfl (.cons rfl (.cons rfl (.cons rfl (.cons rfl (.cons rfl (.nil rfl))))))) (by show (X l ++ e) ++ [_] = _; rw [List.append_assoc]; rfl) fun fr => ?_
  have hnew : (X l ++ (e ++ [SB.box m.cs]))[(X l ++ e).length]? = some (.box m.cs) := by rw [← List.append_assoc]; exact at_new _ _
  have hend : (X l ++ (e ++ [SB.box m.cs])).take (X l ++ e).length = X l ++ e := by rw [← List.append_assoc, List.take_left]
  refine k_seq ?_
  refine k_seq ?_
  refine k_region ?_
  refine o_move rfl ?_
  refine o_eql rfl rfl rfl ?_
  refine o_nil ?_
  refine k_cond rfl (fun h1 => ?_) (fun h1 => by cases h1)
  refine k_seq ?_
  refine k_region ?_
  refine o_move rfl ?_
  refine o_neq rfl rfl rfl ?_
  refine o_move rfl ?_
  by_cases hz : more = 0
  · refine o_gD rfl rfl rfl rfl (decide_eq_false (by simpa using hz)) ?_
    refine o_loadN rfl rfl hnew sh57 rfl ?_
    refine o_gD rfl rfl rfl rfl (decide_eq_false (by simpa using hz)) ?_
    refine o_build (cs := zQ.cs) rfl ze57 pl57 rfl rfl ?_
    refine o_gD rfl rfl rfl rfl (decide_eq_false (by simpa using hz)) ?_
    refine o_binK rfl rfl rfl rfl rfl (eql_q m zQ) ?_
    refine o_pickF rfl rfl (decide_eq_false (by simpa using hz)) ?_
    refine o_move rfl ?_
    by_cases hq : m = zQ
    · have e0 : eqQ m zQ = true := eqQ_iff.2 hq
      refine o_gS rfl rfl rfl rfl e0 ?_
      refine o_gS rfl rfl rfl rfl e0 ?_
      refine o_gS rfl rfl rfl rfl e0 ?_
      refine o_pickT rfl rfl e0 ?_
      refine o_assign rfl ?_
      refine o_nil ?_
      refine k_ret ?_
      refine ⟨.inr rfl, _, .cons _ _ _ _ (.tmp 9) .nil, ?_⟩
      refine ⟨_, .refl _, Bd.bool _ _, ?_, ?_, .inl ⟨?_, rfl, ?_⟩⟩
      · show (X l ++ e).length ≤ (X l ++ (e ++ [_])).length; simp
      · show ∀ x ∈ (X l ++ (e ++ [SB.box m.cs])).take (X l ++ e).length, BdS (X l ++ e).length x
        rw [hend, List.length_append, hX1]; exact h.bd' he _
      · unfold lvM; rw [if_neg (fun h => h hz), if_pos e0]; rfl
      · show (X l ++ (e ++ [SB.box m.cs])).take (X l ++ e).length = _
        rw [hend]; unfold lvM; rw [if_neg (fun h => h hz), if_pos e0, List.append_nil]
    · have e0 : eqQ m zQ = false := by cases hh : eqQ m zQ with
        | false => rfl
        | true => exact absurd (eqQ_iff.1 hh) hq
      have el : lvM L 0 4 m more = [m] := by unfold lvM; rw [if_neg (fun h => h hz), if_neg (by rw [e0]; simp)]
      refine o_gD rfl rfl rfl rfl e0 ?_
      refine o_load1 rfl rfl (at_pre hb1) sh108 rfl ?_
      refine o_gD rfl rfl rfl rfl e0 ?_
      refine o_loadN rfl rfl hnew sh57 rfl ?_
      refine o_gD rfl rfl rfl rfl e0 ?_
      refine o_yield (a := a) rfl rfl (at_pre (h.bl l)) h.own (by obtain ⟨p, hp, hp2⟩ := h.ps; rw [hp]; simp [hp2]) (by obtain ⟨p, hp, hp2⟩ := h.ps; rw [hp]; rfl) (.lrefl _) (h.run is orc hi l m (e ++ [_]) hm (he.snoc (nb_qd _))) (fun u st1 hM => ?_)
      rw [el]
      rcases hM with ⟨hs, rfl, e', he', rfl⟩ | ⟨hs, rfl, e', he', rfl⟩
      · have hX := h.len (l ++ [m])
        have et : (X (l ++ [m]) ++ ((e ++ [SB.box m.cs]) ++ e')).take (X l ++ e).length = X (l ++ [m]) ++ e := by
          rw [List.append_assoc e, ← List.append_assoc (X (l ++ [m])), List.take_left' (by simp [hX, hX1])]
        refine o_pickF rfl rfl e0 ?_
        refine o_assign rfl ?_
        refine o_nil ?_
        refine k_ret ?_
        refine ⟨.inr rfl, _, .cons _ _ _ _ (.tmp 9) .nil, ?_⟩
        refine ⟨_, .refl _, Bd.bool _ _, ?_, ?_, .inl ⟨by simp [hs], rfl, et⟩⟩
        · show (X l ++ e).length ≤ (X (l ++ [m]) ++ ((e ++ [SB.box _]) ++ e')).length
          simp [hX, hX1]
        · show ∀ x ∈ (X (l ++ [m]) ++ ((e ++ [SB.box m.cs]) ++ e')).take (X l ++ e).length, BdS (X l ++ e).length x
          rw [et, List.length_append, hX1]
          exact h.bd' he _
      · have hX := h.lenD
        have et : (D ++ ((e ++ [SB.box m.cs]) ++ e')).take (X l ++ e).length = D ++ e := by
          rw [List.append_assoc e, ← List.append_assoc D, List.take_left' (by simp [hX, hX1])]
        refine o_pickF rfl rfl e0 ?_
        refine o_assign rfl ?_
        refine o_nil ?_
        refine k_ret ?_
        refine ⟨.inr rfl, _, .cons _ _ _ _ (.tmp 9) .nil, ?_⟩
        refine ⟨_, .refl _, Bd.bool _ _, ?_, ?_, .inr ⟨by simp [hs], rfl, et⟩⟩
        · show (X l ++ e).length ≤ (D ++ ((e ++ [SB.box _]) ++ e')).length
          simp [hX, hX1]
        · show ∀ x ∈ (D ++ ((e ++ [SB.box m.cs]) ++ e')).take (X l ++ e).length, BdS (X l ++ e).length x
          rw [et, List.length_append, hX1]
          exact h.bdD' he
  · have e1 : decide (more ≠ 0) = true := decide_eq_true hz
    refine o_gS rfl rfl rfl rfl e1 ?_
    refine o_gS rfl rfl rfl rfl e1 ?_
    refine o_gS rfl rfl rfl rfl e1 ?_
    refine o_pickT rfl rfl e1 ?_
    refine o_move rfl ?_
    refine o_gS rfl rfl rfl rfl rfl ?_
    refine o_gS rfl rfl rfl rfl rfl ?_
    refine o_gS rfl rfl rfl rfl rfl ?_
    refine o_pickT rfl rfl rfl ?_
    refine o_assign rfl ?_
    refine o_nil ?_
    refine k_ret ?_
    refine ⟨.inr rfl, _, .cons _ _ _ _ (.tmp 9) .nil, ?_⟩
    refine ⟨_, .refl _, Bd.bool _ _, ?_, ?_, .inl ⟨?_, rfl, ?_⟩⟩
    · show (X l ++ e).length ≤ (X l ++ (e ++ [_])).length; simp
    · show ∀ x ∈ (X l ++ (e ++ [SB.box m.cs])).take (X l ++ e).length, BdS (X l ++ e).length x
      rw [hend, List.length_append, hX1]; exact h.bd' he _
    · unfold lvM; rw [if_pos hz]; rfl
    · show (X l ++ (e ++ [SB.box m.cs])).take (X l ++ e).length = _
      rw [hend]; unfold lvM; rw [if_pos hz, List.append_nil]
set_option maxHeartbeats 4000000 in
theorem wpc91 (hi : Off is) (h : SeenM L N y bi fi a lp stop X D) (hL : QOk L) : ∀ (r k : Nat) (m : Qd) (more : Int) (l : List Qd) (e : List SB), k + r = 4 → QOk m → 0 ≤ more ∧ more ≤ 24 → Ext e →
    WpC Tryz.prog is orc 91 [m.u, .int .i64 k, .int .i64 more, .box y 0, .box bi 0, .box fi 0] (X l ++ e) fun u st' => outM stop X D l e (lvM L r k m more) u st' := by
  intro r
  induction r with
  | zero =>
    intro k m more l e hk hm hmo he
    have hk4 : k = 4 := by omega
    subst hk4
    exact wpc91z hi h m more l e hm hmo he
  | succ r ih =>
    intro k m more l e hk hm hmo he
    have hk4 : k < 4 := by omega
    have hX1 := h.len l
    have hLk := hL.at k
    have hmin : 0 ≤ min (L.at k) more ∧ min (L.at k) more ≤ L.at k ∧ min (L.at k) more ≤ more := by omega
    have hLa : L.cs[0 + (k : Int).toNat * 1]? = some (.int .i64 (L.at k)) := by rw [Int.toNat_natCast, Nat.mul_one, Nat.zero_add]; exact qd_at L hk4
    refine wpc_cut body91 pure91 rfl rfl ?_
    refine k_seq ?_
    refine k_region ?_
    refine o_box rfl rfl ?_
    refine o_assign rfl ?_
    refine o_nil ?_
    refine k_gen [(1, .int .i64 k), (2, .int .i64 more), (3, .box y 0), (4, .box bi 0), (5, .box fi 0), (6, .box (X l ++ e).length 0)] (X l ++ (e ++ [.box m.cs])) (.cons rfl (.cons rfl (.cons rfl (.cons rfl (.cons rfl (.cons rfl (.nil rfl))))))) (by show (X l ++ e) ++ [_] = _; rw [List.append_assoc]; rfl) fun fr => ?_
    refine k_seq ?_
    refine k_seq ?_
    refine k_region ?_
    refine o_move rfl ?_
    refine o_eql rfl rfl rfl ?_
    refine o_nil ?_
    refine k_cond rfl (fun h1 => absurd h1 (by simp; omega)) (fun h1 => ?_)
    refine k_skip ?_
    refine k_seq ?_
    refine k_seq ?_
    refine k_region ?_
    refine o_move rfl ?_
    refine o_idxA rfl ty57 rfl rfl (by omega) (by omega) cl3 ?_
    refine o_load1 rfl rfl (at_pre (h.bb l)) sh3 hLa ?_
    refine o_move rfl ?_
    refine o_min rfl rfl rfl ?_
    refine o_add rfl rfl rfl (by unfold I64; omega) ?_
    refine o_move rfl ?_
    refine o_nil ?_
    refine k_block ?_
    refine k_loop (fun kk s => ∃ (j : Nat) (m' : Qd), kk + j = widM L k more ∧ (∀ t, setQ m' k t = setQ m k t) ∧ QOk m' ∧ (partM L r k m more j).any stop = false ∧ s.st = X (l ++ partM L r k m more j) ++ (e ++ [.box m'.cs]) ∧
      Holds s [(1, .int .i64 k), (2, .int .i64 more), (5, .box fi 0), (6, .box (X l ++ e).length 0), (30, .int .i64 (min (L.at k) more + 1)), (31, .int .i64 j)]) (fun kk s hI => ?_) (widM L k more) _ ?_
    · obtain ⟨j, m', hkk, hm', hmk, hno, hst, hs⟩ := hI
      refine k_gen _ _ hs hst fun fr => ?_
      have hX0 := h.len (l ++ partM L r k m more j)
      have hw : (widM L k more : Int) = min (L.at k) more + 1 := by unfold widM; omega
      refine k_seq ?_
      refine k_region ?_
      refine o_lss rfl rfl rfl ?_
      refine o_nil ?_
      refine k_seq ?_
      refine k_cond rfl (fun h2 => ?_) (fun h2 => ?_)
      · have hj : j < widM L k more := by have := of_decide_eq_true h2; omega
        have hjm : (j : Int) ≤ more := by omega
        have hmn := setQ_ok hmk k (t := (j : Int)) (by omega)
        have hbx : (X (l ++ partM L r k m more j) ++ (e ++ [SB.box m'.cs]))[(X l ++ e).length]? = some (.box m'.cs) := by
          rw [← List.append_assoc, show (X l ++ e).length = (X (l ++ partM L r k m more j) ++ e).length by simp [hX0, hX1]]; exact at_new _ _
        have hbx2 : (X (l ++ partM L r k m more j) ++ (e ++ [SB.box (setQ m' k j).cs]))[(X l ++ e).length]? = some (.box (setQ m' k j).cs) := by
          rw [← List.append_assoc, show (X l ++ e).length = (X (l ++ partM L r k m more j) ++ e).length by simp [hX0, hX1]]; exact at_new _ _
        refine k_skip ?_
        refine k_seq ?_
        refine k_block ?_
        refine k_seq ?_
        refine k_region ?_
        refine o_move rfl ?_
        refine o_assign rfl ?_
        refine o_nil ?_
        refine k_seq ?_
        refine k_region ?_
        refine o_move rfl ?_
        refine o_move rfl ?_
        refine o_idxA rfl ty57 rfl rfl (by omega) (by omega) cl3 ?_
        refine o_store1 rfl hbx sh3 (by show Nat.blt (0 + (k : Int).toNat * 1) 4 = true; rw [Int.toNat_natCast, Nat.mul_one, Nat.blt_eq]; omega) rfl ?_
        refine o_nil ?_
        refine k_gen [(1, .int .i64 k), (2, .int .i64 more), (5, .box fi 0), (6, .box (X l ++ e).length 0), (10, .int .i64 j), (30, .int .i64 (min (L.at k) more + 1)), (31, .int .i64 j)] (X (l ++ partM L r k m more j) ++ (e ++ [.box (setQ m' k j).cs])) (.cons rfl (.cons rfl (.cons rfl (.cons rfl (.cons rfl (.cons rfl (.cons rfl (.nil rfl)))))))) (by
          show (X (l ++ partM L r k m more j) ++ (e ++ [SB.box _])).set (X l ++ e).length (.box (m'.cs.set (0 + (k : Int).toNat * 1) (.int .i64 j))) = _
          rw [Int.toNat_natCast, Nat.mul_one, Nat.zero_add, setQ_set _ hk4, ← List.append_assoc, show (X l ++ e).length = (X (l ++ partM L r k m more j) ++ e).length by simp [hX0, hX1], List.set_append_right _ _ (Nat.le_refl _), Nat.sub_self, ← List.append_assoc]
          rfl) fun fr => ?_
        refine k_seq ?_
        refine k_region ?_
        refine o_load1 rfl rfl (at_pre (h.bf _)) sh130 rfl ?_
        refine o_loadN rfl rfl hbx2 sh57 rfl ?_
        refine o_move rfl ?_
        refine o_add rfl rfl rfl (by unfold I64; omega) ?_
        refine o_move rfl ?_
        refine o_move rfl ?_
        refine o_sub rfl rfl rfl (by unfold I64; omega) ?_
        refine o_callV rfl rfl (ih (k + 1) (setQ m' k j) (more - j) (l ++ partM L r k m more j) (e ++ [_]) (by omega) hmn (by omega) (he.snoc (nb_qd _))) (.lrefl _) (fun u st1 hM => ?_)
        rw [hm'] at hM
        rcases hM with ⟨hs0, rfl, rfl⟩ | ⟨hs0, rfl, rfl⟩
        · refine o_not rfl rfl ?_
          refine o_nil ?_
          refine k_cond rfl (fun h3 => by cases h3) (fun h3 => ?_)
          refine k_skip ?_
          refine k_region ?_
          refine o_add rfl rfl rfl (by unfold I64; omega) ?_
          refine o_move rfl ?_
          refine o_nil ?_
          refine ⟨kk - 1, by omega, j + 1, setQ m' k j, by omega, fun t => by rw [setQ_setQ, hm'], hmn, ?_, ?_, .cons rfl (.cons rfl (.cons rfl (.cons rfl (.cons rfl (.cons rfl (.nil rfl))))))⟩
          · rw [partM_succ, List.any_append, hno, hs0]; rfl
          · show X ((l ++ partM L r k m more j) ++ lvM L r (k + 1) (setQ m k j) (more - j)) ++ _ = _
            rw [partM_succ, List.append_assoc, hm']
        · refine o_not rfl rfl ?_
          refine o_nil ?_
          refine k_cond rfl (fun h3 => ?_) (fun h3 => by cases h3)
          have hXD := h.lenD
          have et : (D ++ (e ++ [SB.box (setQ m k j).cs])).take (X l ++ e).length = D ++ e := by
            rw [← List.append_assoc, List.take_left' (by simp [hXD, hX1])]
          refine k_seq ?_
          refine k_region ?_
          refine o_assign rfl ?_
          refine o_nil ?_
          refine k_ret ?_
          refine ⟨.inr rfl, _, .cons _ _ _ _ (.tmp 9) .nil, ?_⟩
          refine ⟨_, .refl _, Bd.bool _ _, ?_, ?_, .inr ⟨partM_any hj hs0, rfl, et⟩⟩
          · show (X l ++ e).length ≤ (D ++ (e ++ [SB.box (setQ m k j).cs])).length
            simp [hXD, hX1]
          · show ∀ x ∈ (D ++ (e ++ [SB.box (setQ m k j).cs])).take (X l ++ e).length, BdS (X l ++ e).length x
            rw [et, List.length_append, hX1]
            exact h.bdD' he
      · have hj : j = widM L k more := by have := of_decide_eq_false h2; omega
        subst hj
        refine k_exit ?_
        refine k_seq ?_
        refine k_region ?_
        refine o_assign rfl ?_
        refine o_nil ?_
        refine k_ret ?_
        have et : (X (l ++ partM L r k m more (widM L k more)) ++ (e ++ [SB.box m'.cs])).take (X l ++ e).length = X (l ++ partM L r k m more (widM L k more)) ++ e := by
          rw [← List.append_assoc, List.take_left' (by simp [hX0, hX1])]
        refine ⟨.inr rfl, _, .cons _ _ _ _ (.tmp 9) .nil, ?_⟩
        refine ⟨_, .refl _, Bd.bool _ _, ?_, ?_, .inl ⟨hno, rfl, et⟩⟩
        · show (X l ++ e).length ≤ (X (l ++ partM L r k m more (widM L k more)) ++ (e ++ [SB.box m'.cs])).length
          simp [hX0, hX1]
        · show ∀ x ∈ (X (l ++ partM L r k m more (widM L k more)) ++ (e ++ [SB.box m'.cs])).take (X l ++ e).length, BdS (X l ++ e).length x
          rw [et, List.length_append, hX1]
          exact h.bd' he _
    · refine ⟨0, m, by omega, fun _ => rfl, hm, rfl, ?_, .cons rfl (.cons rfl (.cons rfl (.cons rfl (.cons rfl (.cons rfl (.nil rfl))))))⟩
      show X l ++ _ = X (l ++ []) ++ _
      rw [List.append_nil]
end Go.Proofs.YtoldkckmenjknaaGreat.forgeFewest
