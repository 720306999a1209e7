/- rasp's functions and the law's, by the logic of trees: what each gives back for all that it may be given. -/
import Derived.Test.YtdahbimllmapkaaVamQ
import Derived.Test.YtdahbimllmapkaaProg
import Derived.KernelRfl
namespace Go.Proofs.Ytdahbimllmapkaa.raspMore
open Vam
set_option linter.unusedVariables false
set_option linter.unusedSimpArgs false
set_option linter.constructorNameAsVariable false
variable {is : FuncId → Bool} {orc : Known}
theorem fld24_0 : fieldOf Try.prog 24 0 = some (0, 3) := by kernel_rfl
theorem fld24_1 : fieldOf Try.prog 24 1 = some (1, 3) := by kernel_rfl
theorem pl24 : plcOf Try.prog 24 = some [(0, 1), (1, 1)] := by kernel_rfl
theorem sh24 : shOf Try.prog 24 = .many 2 := by kernel_rfl
theorem sh3 : shOf Try.prog 3 = .one := by kernel_rfl
theorem ze24 : zeroL Try.prog 24 = some ((.cons (.int .i64 0) (.cons (.int .i64 0) .nil)) : V) := by kernel_rfl
theorem dat_l1 {k : Nat} {a : U} (h : Dat k a) : ∀ v ∈ [a], Dat k v := fun v hv => by
  simp only [List.mem_cons, List.not_mem_nil, or_false] at hv
  subst hv; exact h
theorem dat_l2 {k : Nat} {a b : U} (h : Dat k a) (h2 : Dat k b) : ∀ v ∈ [a, b], Dat k v := fun v hv => by
  simp only [List.mem_cons, List.not_mem_nil, or_false] at hv
  rcases hv with rfl | rfl <;> assumption
theorem dat_l3 {k : Nat} {a b c : U} (h : Dat k a) (h2 : Dat k b) (h3 : Dat k c) : ∀ v ∈ [a, b, c], Dat k v := fun v hv => by
  simp only [List.mem_cons, List.not_mem_nil, or_false] at hv
  rcases hv with rfl | rfl | rfl <;> assumption
abbrev spanU (a b : Int) : U := .agg [.int .i64 a, .int .i64 b]
theorem dat_span (a b : Int) (k : Nat) : Dat (k + 2) (spanU a b) := .agg _ _ (dat_l2 (.int _ _ _) (.int _ _ _))
structure Tri where
  a : Int
  b : Int
  c : Int
abbrev Tri.u (q : Tri) : U := .agg [.int .i64 q.a, .int .i64 q.b, .int .i64 q.c]
abbrev trisU (l : List Tri) : List U := l.map Tri.u
structure Bnd where
  a : Int
  b : Int
  lo : Int
  hi : Int
abbrev Bnd.u (q : Bnd) : U := .agg [.int .i64 q.a, .int .i64 q.b, .int .i64 q.lo, .int .i64 q.hi]
abbrev bndsU (l : List Bnd) : List U := l.map Bnd.u
theorem dat_tris (l : List Tri) (kd : Kd) (hk : kd ≠ .own) (k : Nat) : Dat (k + 2) (.lst kd 3 (trisU l)) := by
  refine .lst _ _ _ _ hk fun c hc => ?_
  obtain ⟨e, h1, h2⟩ := List.mem_flatMap.1 hc
  obtain ⟨q, _, rfl⟩ := List.mem_map.1 h1
  exact dat_l3 (.int _ _ _) (.int _ _ _) (.int _ _ _) c h2
theorem dat_bnds (l : List Bnd) (kd : Kd) (hk : kd ≠ .own) (k : Nat) : Dat (k + 2) (.lst kd 4 (bndsU l)) := by
  refine .lst _ _ _ _ hk fun c hc => ?_
  obtain ⟨e, h1, h2⟩ := List.mem_flatMap.1 hc
  obtain ⟨q, _, rfl⟩ := List.mem_map.1 h1
  have h2 : c ∈ [U.int .i64 q.a, .int .i64 q.b, .int .i64 q.lo, .int .i64 q.hi] := h2
  simp only [List.mem_cons, List.not_mem_nil, or_false] at h2
  rcases h2 with rfl | rfl | rfl | rfl <;> exact .int _ _ _
theorem all_take {α : Type} {p : α → Bool} {l : List α} {n : Nat} {x : α} (h : l[n]? = some x) (h1 : (l.take n).all p = true) (h2 : p x = true) : (l.take (n + 1)).all p = true := by
  rw [List.take_add_one, List.all_append, h1, h]
  simpa using h2
theorem all_not {α : Type} {p : α → Bool} {l : List α} {n : Nat} {x : α} (h : l[n]? = some x) (h2 : p x = false) : l.all p = false := by
  rw [List.all_eq_false]
  exact ⟨x, List.mem_of_getElem? h, by simp [h2]⟩
abbrev Off (is : FuncId → Bool) : Prop := ∀ f, f ≠ 20 → is f = false
theorem Bd.mono {n m : Nat} {u : U} (h : Bd n u) (hm : n ≤ m) : Bd m u := fun φ S v hv => (h φ S v hv).mono (fun a b e => BMap.cut_of (by have := (BMap.cut_some e).1; omega) (BMap.cut_some e).2) S.le_refl
theorem BdS.mono {n m : Nat} {x : SB} (h : BdS n x) (hm : n ≤ m) : BdS m x := by
  cases x with
  | box cs => exact fun c hc => Bd.mono (h c hc) hm
  | froz cs => exact fun c hc => Bd.mono (h c hc) hm
  | map es => exact fun p hp => ⟨Bd.mono (h p hp).1 hm, Bd.mono (h p hp).2 hm⟩
  | loop q l => exact fun i => Bd.mono (h i) hm
  | dead => trivial
def Ext (l : List SB) : Prop := ∀ x ∈ l, ∃ cs, x = .box cs ∧ ∀ c ∈ cs, NB c
theorem Ext.nil : Ext [] := fun _ h => by cases h
theorem Ext.app {l m : List SB} (h : Ext l) (k : Ext m) : Ext (l ++ m) := fun x hx => by
  rcases List.mem_append.1 hx with hx | hx
  · exact h x hx
  · exact k x hx
theorem Ext.bd {l : List SB} (h : Ext l) (n : Nat) : ∀ x ∈ l, BdS n x := fun x hx => by
  obtain ⟨cs, rfl, k⟩ := h x hx
  exact fun c hc => (k c hc).bd n
theorem at_pre {l m : List SB} {i : Nat} {x : SB} (h : l[i]? = some x) : (l ++ m)[i]? = some x := by
  rw [List.getElem?_append_left (List.getElem?_eq_some_iff.1 h).1, h]
theorem set_end (l : List SB) (x y : SB) : (l ++ [x]).set l.length y = l ++ [y] := by
  rw [List.set_append_right _ _ (Nat.le_refl _), Nat.sub_self]; rfl
theorem lookU_all {p : U → Prop} {l : List (Nat × U)} {d : U} (h : ∀ x ∈ l, p x.2) (hd : p d) (i : Nat) : p (lookU l i d) := by
  induction l with
  | nil => exact hd
  | cons x l ih =>
    obtain ⟨j, u⟩ := x
    show p (Vam.cond (Nat.beq i j) u (lookU l i d))
    cases Nat.beq i j with
    | true => exact h _ List.mem_cons_self
    | false => exact ih fun y hy => h y (List.mem_cons_of_mem _ hy)
abbrev intsU (l : List Int) : List U := l.map fun n => .int .i64 n
theorem cl3 : Program.cellsOf Try.prog 3 = 1 := by kernel_rfl
theorem fld78_1 : fieldOf Try.prog 78 1 = some (1, 3) := by kernel_rfl
theorem ty38 : tyOf Try.prog 38 = .slice 3 := by kernel_rfl
noncomputable def b47 : Code := (Try.f47.body).getD .skip
theorem body47 : bodyOf Try.prog 47 = some (9, b47, [.tmp 2]) := by kernel_rfl
theorem pure47 : pureFn Try.prog 47 = true := by kernel_rfl
set_option maxHeartbeats 4000000 in
theorem ret47 (hi : Off is) (n : Int) : RetP Try.prog is orc 47 [.int .i64 n] (.bool (decide (-60 ≤ n) && decide (n ≤ 60))) := by
  refine ret_of body47 pure47 (hi 47 (by decide)) rfl rfl (dat_l1 (.int _ _ _)) (.inl (.bool _ _)) ?_
  refine k_seq ?_
  refine k_region ?_   -- region 0 shop.go:63
  refine o_assign rfl ?_
  refine o_nil ?_
  refine k_seq ?_
  refine k_region ?_   -- region 1 shop.go:63
  refine o_move rfl ?_
  refine o_leq rfl rfl rfl ?_
  refine o_move rfl ?_
  refine o_guard rfl rfl rfl rfl (fun h1 => ?_) (fun h1 => ?_)   -- slot 5
  · refine o_move rfl ?_
    refine o_guard rfl rfl rfl rfl (fun _ => ?_) (fun h => by rw [h1] at h; cases h)
    refine o_leq rfl rfl rfl ?_
    refine o_pickT rfl rfl h1 ?_
    refine o_assign rfl ?_
    refine o_nil ?_
    refine k_ret ?_
    refine ⟨.inr rfl, _, .cons _ _ _ _ (.tmp 2) .nil, ?_⟩
    rw [h1]; exact .refl _
  · refine o_guard rfl rfl rfl rfl (fun h => by rw [h1] at h; cases h) (fun _ => ?_)
    refine o_pickF rfl rfl h1 ?_
    refine o_assign rfl ?_
    refine o_nil ?_
    refine k_ret ?_
    refine ⟨.inr rfl, _, .cons _ _ _ _ (.tmp 2) .nil, ?_⟩
    rw [h1]; exact .refl _
noncomputable def b48 : Code := (Try.f48.body).getD .skip
theorem body48 : bodyOf Try.prog 48 = some (9, b48, [.tmp 2]) := by kernel_rfl
theorem pure48 : pureFn Try.prog 48 = true := by kernel_rfl
set_option maxHeartbeats 4000000 in
theorem ret48 (hi : Off is) (n : Int) : RetP Try.prog is orc 48 [.int .i64 n] (.bool (decide (0 ≤ n) && decide (n ≤ 30))) := by
  refine ret_of body48 pure48 (hi 48 (by decide)) rfl rfl (dat_l1 (.int _ _ _)) (.inl (.bool _ _)) ?_
  refine k_seq ?_
  refine k_region ?_   -- region 0 shop.go:65
  refine o_assign rfl ?_
  refine o_nil ?_
  refine k_seq ?_
  refine k_region ?_   -- region 1 shop.go:65
  refine o_move rfl ?_
  refine o_leq rfl rfl rfl ?_
  refine o_move rfl ?_
  refine o_guard rfl rfl rfl rfl (fun h1 => ?_) (fun h1 => ?_)   -- slot 5
  · refine o_move rfl ?_
    refine o_guard rfl rfl rfl rfl (fun _ => ?_) (fun h => by rw [h1] at h; cases h)
    refine o_leq rfl rfl rfl ?_
    refine o_pickT rfl rfl h1 ?_
    refine o_assign rfl ?_
    refine o_nil ?_
    refine k_ret ?_
    refine ⟨.inr rfl, _, .cons _ _ _ _ (.tmp 2) .nil, ?_⟩
    rw [h1]; exact .refl _
  · refine o_guard rfl rfl rfl rfl (fun h => by rw [h1] at h; cases h) (fun _ => ?_)
    refine o_pickF rfl rfl h1 ?_
    refine o_assign rfl ?_
    refine o_nil ?_
    refine k_ret ?_
    refine ⟨.inr rfl, _, .cons _ _ _ _ (.tmp 2) .nil, ?_⟩
    rw [h1]; exact .refl _
noncomputable def b64 : Code := (Try.f64.body).getD .skip
theorem body64 : bodyOf Try.prog 64 = some (15, b64, [.tmp 4]) := by kernel_rfl
theorem pure64 : pureFn Try.prog 64 = true := by kernel_rfl
set_option maxHeartbeats 4000000 in
theorem ret64 (hi : Off is) (a b n : Int) : RetP Try.prog is orc 64 [spanU a b, .int .i64 n] (.bool (decide (a ≤ n) && decide (n ≤ b))) := by
  refine ret_of body64 pure64 (hi 64 (by decide)) rfl rfl (dat_l2 (dat_span _ _ _) (.int _ _ _)) (.inl (.bool _ _)) ?_
  refine k_seq ?_
  refine k_region ?_   -- region 0 span.go:9
  refine o_box rfl rfl ?_
  refine o_assign rfl ?_
  refine o_nil ?_
  refine k_seq ?_
  refine k_region ?_   -- region 1 span.go:9
  first | refine o_faddr rfl rfl fld24_0 ?_ | refine o_faddrR rfl rfl fld24_0 ?_
  first | refine o_load1 rfl rfl rfl sh3 rfl ?_ | refine o_loadR1 rfl rfl sh3 rfl ?_
  refine o_move rfl ?_
  refine o_leq rfl rfl rfl ?_
  refine o_move rfl ?_
  refine o_guard rfl rfl rfl rfl (fun h1 => ?_) (fun h1 => ?_)   -- slot 9
  · refine o_move rfl ?_
    refine o_guard rfl rfl rfl rfl (fun _ => ?_) (fun h => by rw [h1] at h; cases h)
    first | refine o_faddr rfl rfl fld24_1 ?_ | refine o_faddrR rfl rfl fld24_1 ?_
    refine o_guard rfl rfl rfl rfl (fun _ => ?_) (fun h => by rw [h1] at h; cases h)
    first | refine o_load1 rfl rfl rfl sh3 rfl ?_ | refine o_loadR1 rfl rfl sh3 rfl ?_
    refine o_guard rfl rfl rfl rfl (fun _ => ?_) (fun h => by rw [h1] at h; cases h)
    refine o_leq rfl rfl rfl ?_
    refine o_pickT rfl rfl h1 ?_
    refine o_assign rfl ?_
    refine o_nil ?_
    refine k_ret ?_
    refine ⟨.inr rfl, _, .cons _ _ _ _ (.tmp 4) .nil, ?_⟩
    rw [h1]; exact .refl _
  · refine o_guard rfl rfl rfl rfl (fun h => by rw [h1] at h; cases h) (fun _ => ?_)
    refine o_guard rfl rfl rfl rfl (fun h => by rw [h1] at h; cases h) (fun _ => ?_)
    refine o_guard rfl rfl rfl rfl (fun h => by rw [h1] at h; cases h) (fun _ => ?_)
    refine o_pickF rfl rfl h1 ?_
    refine o_assign rfl ?_
    refine o_nil ?_
    refine k_ret ?_
    refine ⟨.inr rfl, _, .cons _ _ _ _ (.tmp 4) .nil, ?_⟩
    rw [h1]; exact .refl _
noncomputable def b79 : Code := (Try.f79.body).getD .skip
theorem body79 : bodyOf Try.prog 79 = some (18, b79, [.tmp 4]) := by kernel_rfl
theorem pure79 : pureFn Try.prog 79 = true := by kernel_rfl
set_option maxHeartbeats 4000000 in
theorem ret79 (hi : Off is) (m : Int) (l : List Int) (hl : l.length ≤ 4096) : RetP Try.prog is orc 79 [.int .i64 m, .lst .ro 1 (intsU l)] (.int .i64 (l.foldl (fun a b => max a b) m)) := by
  refine ret_of body79 pure79 (hi 79 (by decide)) rfl rfl (dat_l2 (.int _ _ _) (dat_ints 6 .ro (fun h => by cases h) 1 l)) (.inl (.int _ _ _)) ?_
  refine k_seq ?_
  refine k_region ?_   -- region 0 span.go:13
  refine o_assign rfl ?_
  refine o_nil ?_
  refine k_seq ?_
  refine k_seq ?_
  refine k_region ?_   -- region 1 span.go:14
  refine o_move rfl ?_
  refine o_len rfl ty38 rfl rfl ?_
  refine o_move rfl ?_
  refine o_nil ?_
  refine k_block ?_
  -- LOOP 1
  refine k_loop (fun k s => ∃ n : Nat, k + n = l.length ∧ Holds s [(0, .int .i64 ((l.take n).foldl (fun a b => max a b) m)), (7, .lst .ro 1 (intsU l)), (8, .int .i64 (intsU l).length), (9, .int .i64 n)]) (fun k s hI => ?_) l.length _ ?_
  · obtain ⟨n, hk, hs⟩ := hI
    refine k_gen _ _ hs rfl fun fr => ?_
    refine k_seq ?_
    refine k_region ?_   -- region 2 span.go:14
    refine o_lss rfl rfl rfl ?_
    refine o_nil ?_
    refine k_seq ?_
    refine k_cond rfl (fun h1 => ?_) (fun h1 => ?_)   -- slot 10
    · have h3' : n < l.length := by
        have := of_decide_eq_true h1
        simp at this; omega
      obtain ⟨q, hq⟩ : ∃ q, l[n]? = some q := ⟨l[n], List.getElem?_eq_getElem h3'⟩
      refine k_skip ?_
      refine k_seq ?_
      refine k_block ?_
      refine k_seq ?_
      refine k_region ?_   -- region 3 span.go:14
      refine o_idx (u := .int .i64 q) rfl ty38 rfl rfl (Int.natCast_nonneg n) (by simp [hq]) cl3 ?_
      first | refine o_load1 rfl rfl rfl sh3 rfl ?_ | refine o_load1 rfl rfl (at_set _ _ _) sh3 rfl ?_ | refine o_load1 rfl rfl (at_new _ _) sh3 rfl ?_ | refine o_load1 rfl rfl (at_old2 hst) sh3 rfl ?_ | refine o_load1 rfl rfl (at_old hst) sh3 rfl ?_ | refine o_load1 rfl rfl hst sh3 rfl ?_ | refine o_loadR1 rfl rfl sh3 rfl ?_
      refine o_assign rfl ?_
      refine o_nil ?_
      refine k_region ?_   -- region 4 span.go:15
      refine o_move rfl ?_
      refine o_move rfl ?_
      refine o_max rfl rfl rfl ?_
      refine o_assign rfl ?_
      refine o_nil ?_
      refine k_region ?_   -- region 5 span.go:14
      refine o_add rfl rfl rfl (by unfold I64; omega) ?_
      refine o_move rfl ?_
      refine o_nil ?_
      exact ⟨k - 1, by omega, n + 1, by omega, .cons (by rw [List.take_add_one, hq, List.foldl_append]; rfl) (.cons rfl (.cons rfl (.cons rfl (.nil rfl))))⟩
    · refine k_exit ?_
      refine k_seq ?_
      refine k_region ?_   -- region 6 span.go:17
      refine o_move rfl ?_
      refine o_assign rfl ?_
      refine o_nil ?_
      refine k_ret ?_
      refine ⟨.inr rfl, _, .cons _ _ _ _ (.tmp 4) .nil, ?_⟩
      have h3' : n = l.length := by
        have := of_decide_eq_false h1
        simp at this; omega
      rw [h3', List.take_length]; exact .refl _
  · exact ⟨0, rfl, .cons rfl (.cons rfl (.cons rfl (.cons rfl (.nil rfl))))⟩
noncomputable def b84 : Code := (Try.f84.body).getD .skip
theorem body84 : bodyOf Try.prog 84 = some (18, b84, [.tmp 4]) := by kernel_rfl
theorem pure84 : pureFn Try.prog 84 = true := by kernel_rfl
set_option maxHeartbeats 4000000 in
theorem ret84 (hi : Off is) (m : Int) (l : List Int) (hl : l.length ≤ 4096) : RetP Try.prog is orc 84 [.int .i64 m, .lst .ro 1 (intsU l)] (.int .i64 (l.foldl (fun a b => min a b) m)) := by
  refine ret_of body84 pure84 (hi 84 (by decide)) rfl rfl (dat_l2 (.int _ _ _) (dat_ints 6 .ro (fun h => by cases h) 1 l)) (.inl (.int _ _ _)) ?_
  refine k_seq ?_
  refine k_region ?_   -- region 0 span.go:20
  refine o_assign rfl ?_
  refine o_nil ?_
  refine k_seq ?_
  refine k_seq ?_
  refine k_region ?_   -- region 1 span.go:21
  refine o_move rfl ?_
  refine o_len rfl ty38 rfl rfl ?_
  refine o_move rfl ?_
  refine o_nil ?_
  refine k_block ?_
  -- LOOP 1
  refine k_loop (fun k s => ∃ n : Nat, k + n = l.length ∧ Holds s [(0, .int .i64 ((l.take n).foldl (fun a b => min a b) m)), (7, .lst .ro 1 (intsU l)), (8, .int .i64 (intsU l).length), (9, .int .i64 n)]) (fun k s hI => ?_) l.length _ ?_
  · obtain ⟨n, hk, hs⟩ := hI
    refine k_gen _ _ hs rfl fun fr => ?_
    refine k_seq ?_
    refine k_region ?_   -- region 2 span.go:21
    refine o_lss rfl rfl rfl ?_
    refine o_nil ?_
    refine k_seq ?_
    refine k_cond rfl (fun h1 => ?_) (fun h1 => ?_)   -- slot 10
    · have h3' : n < l.length := by
        have := of_decide_eq_true h1
        simp at this; omega
      obtain ⟨q, hq⟩ : ∃ q, l[n]? = some q := ⟨l[n], List.getElem?_eq_getElem h3'⟩
      refine k_skip ?_
      refine k_seq ?_
      refine k_block ?_
      refine k_seq ?_
      refine k_region ?_   -- region 3 span.go:21
      refine o_idx (u := .int .i64 q) rfl ty38 rfl rfl (Int.natCast_nonneg n) (by simp [hq]) cl3 ?_
      first | refine o_load1 rfl rfl rfl sh3 rfl ?_ | refine o_load1 rfl rfl (at_set _ _ _) sh3 rfl ?_ | refine o_load1 rfl rfl (at_new _ _) sh3 rfl ?_ | refine o_load1 rfl rfl (at_old2 hst) sh3 rfl ?_ | refine o_load1 rfl rfl (at_old hst) sh3 rfl ?_ | refine o_load1 rfl rfl hst sh3 rfl ?_ | refine o_loadR1 rfl rfl sh3 rfl ?_
      refine o_assign rfl ?_
      refine o_nil ?_
      refine k_region ?_   -- region 4 span.go:22
      refine o_move rfl ?_
      refine o_move rfl ?_
      refine o_min rfl rfl rfl ?_
      refine o_assign rfl ?_
      refine o_nil ?_
      refine k_region ?_   -- region 5 span.go:21
      refine o_add rfl rfl rfl (by unfold I64; omega) ?_
      refine o_move rfl ?_
      refine o_nil ?_
      exact ⟨k - 1, by omega, n + 1, by omega, .cons (by rw [List.take_add_one, hq, List.foldl_append]; rfl) (.cons rfl (.cons rfl (.cons rfl (.nil rfl))))⟩
    · refine k_exit ?_
      refine k_seq ?_
      refine k_region ?_   -- region 6 span.go:24
      refine o_move rfl ?_
      refine o_assign rfl ?_
      refine o_nil ?_
      refine k_ret ?_
      refine ⟨.inr rfl, _, .cons _ _ _ _ (.tmp 4) .nil, ?_⟩
      have h3' : n = l.length := by
        have := of_decide_eq_false h1
        simp at this; omega
      rw [h3', List.take_length]; exact .refl _
  · exact ⟨0, rfl, .cons rfl (.cons rfl (.cons rfl (.cons rfl (.nil rfl))))⟩
noncomputable def b74 : Code := (Try.f74.body).getD .skip
theorem body74 : bodyOf Try.prog 74 = some (5, b74, [.tmp 2]) := by kernel_rfl
theorem pure74 : pureFn Try.prog 74 = true := by kernel_rfl
set_option maxHeartbeats 4000000 in
theorem ret74 (hi : Off is) (l : List Int) (hl : l.length ≤ 4096) : RetP Try.prog is orc 74 [.lst .ro 1 (intsU l)] (.int .i64 (l.foldl (fun a b => max a b) 0)) := by
  refine ret_of body74 pure74 (hi 74 (by decide)) rfl rfl (dat_l1 (dat_ints 6 .ro (fun h => by cases h) 1 l)) (.inl (.int _ _ _)) ?_
  refine k_seq ?_
  refine k_region ?_   -- region 0 plan.go:26
  refine o_assign rfl ?_
  refine o_nil ?_
  refine k_seq ?_
  refine k_region ?_   -- region 1 plan.go:26
  refine o_move rfl ?_
  refine o_call rfl (ret79 hi 0 l hl) (.lrefl _) ?_
  refine o_assign rfl ?_
  refine o_nil ?_
  refine k_ret ?_
  refine ⟨.inr rfl, _, .cons _ _ _ _ (.tmp 2) .nil, ?_⟩
  exact .refl _
noncomputable def b81 : Code := (Try.f81.body).getD .skip
theorem body81 : bodyOf Try.prog 81 = some (5, b81, [.tmp 2]) := by kernel_rfl
theorem pure81 : pureFn Try.prog 81 = true := by kernel_rfl
set_option maxHeartbeats 4000000 in
theorem ret81 (hi : Off is) (l : List Int) (hl : l.length ≤ 4096) : RetP Try.prog is orc 81 [.lst .ro 1 (intsU l)] (.int .i64 (l.foldl (fun a b => min a b) 31)) := by
  refine ret_of body81 pure81 (hi 81 (by decide)) rfl rfl (dat_l1 (dat_ints 6 .ro (fun h => by cases h) 1 l)) (.inl (.int _ _ _)) ?_
  refine k_seq ?_
  refine k_region ?_   -- region 0 plan.go:28
  refine o_assign rfl ?_
  refine o_nil ?_
  refine k_seq ?_
  refine k_region ?_   -- region 1 plan.go:28
  refine o_move rfl ?_
  refine o_call rfl (ret84 hi 31 l hl) (.lrefl _) ?_
  refine o_assign rfl ?_
  refine o_nil ?_
  refine k_ret ?_
  refine ⟨.inr rfl, _, .cons _ _ _ _ (.tmp 2) .nil, ?_⟩
  exact .refl _
noncomputable def b80 : Code := (Try.f80.body).getD .skip
theorem body80 : bodyOf Try.prog 80 = some (10, b80, [.tmp 4]) := by kernel_rfl
theorem pure80 : pureFn Try.prog 80 = true := by kernel_rfl
set_option maxHeartbeats 4000000 in
theorem ret80 (hi : Off is) (a b c d : Int) : RetP Try.prog is orc 80 [spanU a b, spanU c d] (.bool (decide (b < d))) := by
  refine ret_of body80 pure80 (hi 80 (by decide)) rfl rfl (dat_l2 (dat_span _ _ _) (dat_span _ _ _)) (.inl (.bool _ _)) ?_
  refine k_seq ?_
  refine k_region ?_   -- region 0 plan.go:21
  refine o_box rfl rfl ?_
  refine o_box rfl rfl ?_
  refine o_assign rfl ?_
  refine o_nil ?_
  refine k_seq ?_
  refine k_region ?_   -- region 1 plan.go:21
  first | refine o_faddr rfl rfl fld78_1 ?_ | refine o_faddrR rfl rfl fld78_1 ?_
  first | refine o_load1 rfl rfl rfl sh3 rfl ?_ | refine o_loadR1 rfl rfl sh3 rfl ?_
  first | refine o_faddr rfl rfl fld78_1 ?_ | refine o_faddrR rfl rfl fld78_1 ?_
  first | refine o_load1 rfl rfl rfl sh3 rfl ?_ | refine o_loadR1 rfl rfl sh3 rfl ?_
  refine o_lss rfl rfl rfl ?_
  refine o_assign rfl ?_
  refine o_nil ?_
  refine k_ret ?_
  refine ⟨.inr rfl, _, .cons _ _ _ _ (.tmp 4) .nil, ?_⟩
  exact .refl _
theorem fld27_0 : fieldOf Try.prog 27 0 = some (0, 22) := by kernel_rfl
theorem fld27_1 : fieldOf Try.prog 27 1 = some (1, 24) := by kernel_rfl
theorem fld52_0 : fieldOf Try.prog 52 0 = some (0, 24) := by kernel_rfl
theorem fld52_1 : fieldOf Try.prog 52 1 = some (2, 3) := by kernel_rfl
theorem fld73_0 : fieldOf Try.prog 73 0 = some (0, 27) := by kernel_rfl
theorem fld80_0 : fieldOf Try.prog 80 0 = some (0, 3) := by kernel_rfl
theorem fld80_1 : fieldOf Try.prog 80 1 = some (1, 3) := by kernel_rfl
theorem pl80 : plcOf Try.prog 80 = some [(0, 1), (1, 1)] := by kernel_rfl
theorem ze80 : zeroL Try.prog 80 = some ((.cons (.int .i64 0) (.cons (.int .i64 0) .nil)) : V) := by kernel_rfl
structure Shop where
  tools : List Tri
  flo : Int
  fhi : Int
  keys : List Tri
abbrev Shop.cs (s : Shop) : List U := [.lst .ro 3 (trisU s.tools), .int .i64 s.flo, .int .i64 s.fhi, .lst .ro 3 (trisU s.keys)]
abbrev Shop.u (s : Shop) : U := .agg s.cs
abbrev Shop.cs6 (s : Shop) : List U := [.lst .ro 3 (trisU s.tools), .int .i64 s.flo, .int .i64 s.fhi, .lst .ro 3 (trisU s.keys), .nilf, .nilf]
theorem dat_shop (s : Shop) (n : Nat) : Dat (n + 3) s.u := .agg _ _ fun c hc => by
  simp only [List.mem_cons, List.not_mem_nil, or_false] at hc
  rcases hc with rfl | rfl | rfl | rfl <;> first | exact .int _ _ _ | exact dat_tris _ _ (fun h => by cases h) _
theorem nb_cs6 (s : Shop) : ∀ c ∈ s.cs6, NB c := by
  intro c hc
  simp only [List.mem_cons, List.not_mem_nil, or_false] at hc
  rcases hc with rfl | rfl | rfl | rfl | rfl | rfl <;> first | exact NB.int _ _ | exact NB.nilf | exact (dat_tris _ _ (fun h => by cases h) 0).nb
def fineB (s : Shop) (off : Int) : Bool := decide (s.flo ≤ off) && decide (off ≤ s.fhi)
noncomputable def b75 : Code := (Try.f75.body).getD .skip
theorem body75 : bodyOf Try.prog 75 = some (10, b75, [.tmp 4]) := by kernel_rfl
theorem pure75 : pureFn Try.prog 75 = false := by kernel_rfl
set_option maxHeartbeats 4000000 in
theorem ret75 (hi : Off is) (s : Shop) (off : Int) : RetP Try.prog is orc 75 [.agg s.cs6, .int .i64 off] (.bool (fineB s off)) := by
  refine ret_of_shared body75 pure75 rfl rfl (by
    intro u hu
    simp only [List.mem_cons, List.not_mem_nil, or_false] at hu
    rcases hu with rfl | rfl
    · exact ⟨NB.agg (nb_cs6 s), NoOwn.of (by intro z es h; cases h)⟩
    · exact ⟨NB.int _ _, NoOwn.of (by intro z es h; cases h)⟩) (NB.bool _) ?_
  refine k_seq (k_region ?_)
  refine o_box rfl rfl ?_
  refine o_assign rfl ?_
  refine o_nil ?_
  refine k_seq (k_region ?_)
  refine o_faddr rfl rfl fld73_0 ?_
  refine o_faddr rfl rfl fld27_1 ?_
  refine o_loadN rfl rfl rfl sh24 rfl ?_
  refine o_move rfl ?_
  refine o_call rfl (ret64 hi _ _ _) (.lrefl _) ?_
  refine o_assign rfl ?_
  refine o_nil ?_
  refine k_ret ?_
  refine ⟨.inr rfl, _, .cons _ _ _ _ (.tmp 4) .nil, ?_⟩
  exact .refl _
noncomputable def b83 : Code := (Try.f83.body).getD .skip
theorem body83 : bodyOf Try.prog 83 = some (6, b83, [.tmp 4]) := by kernel_rfl
theorem pure83 : pureFn Try.prog 83 = false := by kernel_rfl
set_option maxHeartbeats 4000000 in
theorem wpc83 (off metal : Int) (t : Tri) (st : List SB) : WpC Try.prog is orc 83 [spanU off metal, t.u] st fun u st' => u = .fn 85 [] [.box (st.length + 1) 0, .box st.length 0] ∧ st' = st ++ [.box [.int .i64 off, .int .i64 metal], .box [.int .i64 t.a, .int .i64 t.b, .int .i64 t.c]] := by
  refine wpc_of body83 pure83 rfl rfl ?_
  refine k_seq (k_region ?_)
  refine o_box rfl rfl ?_
  refine o_box rfl rfl ?_
  refine o_assign rfl ?_
  refine o_nil ?_
  refine k_seq (k_region ?_)
  refine o_func rfl ?_
  refine o_assign rfl ?_
  refine o_nil ?_
  refine k_ret ?_
  refine ⟨.inr rfl, _, .cons _ _ _ _ (.tmp 4) .nil, ?_⟩
  refine ⟨_, .refl _, ?_, ?_⟩
  · show U.fn 85 [] [.box (st ++ [SB.box _]).length 0, .box st.length 0] = _
    simp
  · show (st ++ [SB.box _]) ++ [SB.box _] = _
    rw [List.append_assoc]; rfl
noncomputable def b85 : Code := (Try.f85.body).getD .skip
theorem body85 : bodyOf Try.prog 85 = some (28, b85, []) := by kernel_rfl
theorem pure85 : pureFn Try.prog 85 = false := by kernel_rfl
set_option maxHeartbeats 4000000 in
theorem wpc85 {N a tb sb : Nat} {lp : Lp} {t : Tri} {off metal : Int} {n : Nat} (ht : -30 ≤ t.a ∧ t.a ≤ t.b ∧ t.b ≤ 30) (hc : 0 ≤ t.c ∧ t.c ≤ 10) (ho : -60 ≤ off ∧ off ≤ 60) (hm : 0 ≤ metal ∧ metal ≤ 30) (hn : (n : Int) = t.b - t.a + 1)
    {I : Nat → List SB → Prop} {F : List SB → Prop} (hI : ∀ j X, I j X → X.length = N ∧ (∀ x ∈ X, BdS N x) ∧ X[tb]? = some (.box [.int .i64 t.a, .int .i64 t.b, .int .i64 t.c]) ∧ X[sb]? = some (.box [.int .i64 off, .int .i64 metal]) ∧ X[a]? = some (.loop .ready lp))
    (hF : ∀ X, F X → X.length = N ∧ ∀ x ∈ X, BdS N x) (own : ∀ i, NoOwn (lp.fr i)) (ps : lp.ps = [60])
    (run : ∀ j X e, j < n → I j X → Ext e → WpY Try.prog is orc a lp [spanU (off + (t.a + j)) (metal - t.c)] (X ++ e) fun u st' => ∃ X' e', Ext e' ∧ st' = X' ++ (e ++ e') ∧ ((u = .bool true ∧ I (j + 1) X') ∨ (u = .bool false ∧ F X')))
    (X : List SB) (h0 : I 0 X) : WpC Try.prog is orc 85 [.yld a, .box tb 0, .box sb 0] X fun _ st' => I n st' ∨ F st' := by
  refine wpc_cut body85 pure85 rfl rfl ?_
  have hX := hI 0 X h0
  refine k_seq (k_region ?_)
  refine o_faddr rfl rfl fld52_0 ?_
  refine o_faddr rfl rfl fld24_0 ?_
  refine o_load1 rfl rfl hX.2.2.1 sh3 rfl ?_
  refine o_assign rfl ?_
  refine o_nil ?_
  refine k_block ?_
  refine k_loop (fun kk s => ∃ (j : Nat) (X : List SB) (e : List SB), kk + j = n ∧ I j X ∧ Ext e ∧ s.st = X ++ e ∧ Holds s [(0, .yld a), (1, .box tb 0), (2, .box sb 0), (4, .int .i64 (t.a + j))]) (fun kk s hI' => ?_) n _ ?_
  · obtain ⟨j, Y, e, hk, hj, he, hst, hs⟩ := hI'
    refine k_gen _ _ hs hst fun fr => ?_
    obtain ⟨q1, q2, q3, q4, q5⟩ := hI j Y hj
    refine k_seq ?_
    refine k_seq (k_region ?_)
    refine o_move rfl ?_
    refine o_faddr rfl rfl fld52_0 ?_
    refine o_faddr rfl rfl fld24_1 ?_
    refine o_load1 rfl rfl (at_pre q3) sh3 rfl ?_
    refine o_leq rfl rfl rfl ?_
    refine o_nil ?_
    refine k_cond rfl (fun h1 => ?_) (fun h1 => ?_)
    · have h1' : t.a + j ≤ t.b := of_decide_eq_true h1
      refine k_skip ?_
      refine k_seq ?_
      refine k_block ?_
      refine k_seq (k_region ?_)
      refine o_move rfl ?_
      refine o_faddr rfl rfl fld80_0 ?_
      refine o_load1 rfl rfl (at_pre q4) sh3 rfl ?_
      refine o_move rfl ?_
      refine o_add rfl rfl rfl (by unfold I64; omega) ?_
      refine o_faddr rfl rfl fld80_1 ?_
      refine o_load1 rfl rfl (at_pre q4) sh3 rfl ?_
      refine o_faddr rfl rfl fld52_1 ?_
      refine o_load1 rfl rfl (at_pre q3) sh3 rfl ?_
      refine o_sub rfl rfl rfl (by unfold I64; omega) ?_
      refine o_build (cs := [.int .i64 (off + (t.a + j)), .int .i64 (metal - t.c)]) rfl ze80 pl80 rfl rfl ?_
      refine o_yield (a := a) rfl rfl (at_pre q5) own (by rw [ps]; rfl) (by rw [ps]; rfl) (.lrefl _) (run j Y e (by omega) hj he) (fun u st1 hM => ?_)
      obtain ⟨Y', e', he', rfl, hM⟩ := hM
      rcases hM with ⟨rfl, hM⟩ | ⟨rfl, hM⟩
      · refine o_not rfl rfl ?_
        refine o_nil ?_
        refine k_cond rfl (fun h => by cases h) (fun _ => ?_)
        refine k_skip ?_
        refine k_region ?_
        refine o_move rfl ?_
        refine o_add rfl rfl rfl (by unfold I64; omega) ?_
        refine o_assign rfl ?_
        refine o_nil ?_
        exact ⟨kk - 1, by omega, j + 1, Y', e ++ e', by omega, hM, he.app he', rfl, .cons rfl (.cons rfl (.cons rfl (.cons (congrArg (U.int .i64) (by omega)) (.nil rfl))))⟩
      · refine o_not rfl rfl ?_
        refine o_nil ?_
        refine k_cond rfl (fun _ => ?_) (fun h => by cases h)
        refine k_ret ?_
        obtain ⟨r1, r2⟩ := hF _ hM
        have et : (Y' ++ (e ++ e')).take X.length = Y' := List.take_left' (by rw [r1, hX.1])
        refine ⟨.inr rfl, _, .nil, _, .refl _, Bd.tup (fun c hc => by cases hc), ?_, ?_, ?_⟩
        · show X.length ≤ (Y' ++ (e ++ e')).length
          rw [List.length_append, r1, hX.1]; omega
        · show ∀ x ∈ (Y' ++ (e ++ e')).take X.length, BdS X.length x
          rw [et, hX.1]; exact r2
        · show I n ((Y' ++ (e ++ e')).take X.length) ∨ F ((Y' ++ (e ++ e')).take X.length)
          rw [et]; exact .inr hM
    · have h1' : ¬ t.a + j ≤ t.b := of_decide_eq_false h1
      have hjn : j = n := by omega
      subst hjn
      refine k_exit ?_
      have et : (Y ++ e).take X.length = Y := List.take_left' (by rw [q1, hX.1])
      refine ⟨.inl rfl, _, .nil, _, .refl _, Bd.tup (fun c hc => by cases hc), ?_, ?_, ?_⟩
      · show X.length ≤ (Y ++ e).length
        rw [List.length_append, q1, hX.1]; omega
      · show ∀ x ∈ (Y ++ e).take X.length, BdS X.length x
        rw [et, hX.1]; exact q2
      · show I j ((Y ++ e).take X.length) ∨ F ((Y ++ e).take X.length)
        rw [et]; exact .inl hj
  · exact ⟨0, X, [], by omega, h0, .nil, (List.append_nil X).symm, .cons rfl (.cons rfl (.cons rfl (.cons (congrArg (U.int .i64) (by simp)) (.nil rfl))))⟩
def offB (off : Int) : Bool := decide (-60 ≤ off) && decide (off ≤ 60)
def cntL (w : Bool) (l : List Int) : Int := if w then l.foldl (fun a b => max a b) 0 else l.foldl (fun a b => min a b) 31
def hitL (rec : Int → Int → Int) (off metal : Int) (t : Tri) (j : Nat) : List Int := (List.range j).map fun j : Nat => rec (off + (t.a + j)) (metal - t.c)
def widM (t : Tri) : Nat := (t.b - t.a + 1).toNat
def stepT (rec : Int → Int → Int) (w : Bool) (off metal : Int) (tk : Int × Int) (i : Nat) (t : Tri) : Int × Int :=
  if metal < t.c then tk else
  if (w && (hitL rec off metal t (widM t)).any (fun x => decide (x = 31))) = true then tk else
  if cntL w (hitL rec off metal t (widM t)) + 1 < tk.2 then ((i : Int), cntL w (hitL rec off metal t (widM t)) + 1) else tk
def takeT (T : List Tri) (rec : Int → Int → Int) (w : Bool) (off metal : Int) : Nat → Int × Int
  | 0 => (-1, 31)
  | i + 1 => match T[i]? with
    | some t => stepT rec w off metal (takeT T rec w off metal i) i t
    | none => takeT T rec w off metal i
def chs (s : Shop) (w : Bool) : Nat → Int → Int → Int × Int
  | 0, _, _ => (-1, 31)
  | n + 1, off, metal => if fineB s off = true then (-1, 0) else if offB off = true then takeT s.tools (fun o m => (chs s w n o m).2) w off metal s.tools.length else (-1, 31)
def cho (s : Shop) (w : Bool) (off metal : Int) : Int × Int := chs s w (metal.toNat + 1) off metal
structure SOk (s : Shop) : Prop where
  nt : 1 ≤ s.tools.length ∧ s.tools.length ≤ 4
  fine : -60 ≤ s.flo ∧ s.flo ≤ s.fhi ∧ s.fhi ≤ 60
  nk : s.keys.length ≤ 6
  tools : ∀ t ∈ s.tools, -30 ≤ t.a ∧ t.a ≤ t.b ∧ t.b ≤ 30 ∧ 1 ≤ t.c ∧ t.c ≤ 10
  keys : ∀ t ∈ s.keys, -60 ≤ t.a ∧ t.a ≤ t.b ∧ t.b ≤ 60 ∧ 0 ≤ t.c ∧ t.c ≤ 30
theorem hit_congr {rec rec' : Int → Int → Int} {off metal : Int} {t : Tri} (h : ∀ o, rec o (metal - t.c) = rec' o (metal - t.c)) (j : Nat) : hitL rec off metal t j = hitL rec' off metal t j := by
  unfold hitL
  exact List.map_congr_left fun j _ => h _
theorem take_congr {T : List Tri} {rec rec' : Int → Int → Int} {w : Bool} {off metal : Int} (hT : ∀ t ∈ T, 1 ≤ t.c) (h : ∀ o m, 0 ≤ m → m < metal → rec o m = rec' o m) (i : Nat) : takeT T rec w off metal i = takeT T rec' w off metal i := by
  induction i with
  | zero => rfl
  | succ i ih =>
    unfold takeT
    cases ht : T[i]? with
    | none => exact ih
    | some t =>
      have hc := hT t (List.mem_of_getElem? ht)
      show stepT rec w off metal _ i t = stepT rec' w off metal _ i t
      rw [ih]
      unfold stepT
      by_cases hm : metal < t.c
      · rw [if_pos hm, if_pos hm]
      · rw [if_neg hm, if_neg hm, hit_congr fun o => h o (metal - t.c) (by omega) (by omega)]
theorem chs_stable {s : Shop} (hs : SOk s) {w : Bool} : ∀ (n m : Nat) (off metal : Int), 0 ≤ metal → metal < n → metal < m → chs s w n off metal = chs s w m off metal := by
  intro n
  induction n with
  | zero => intro m off metal h0 h1; omega
  | succ n ih =>
    intro m off metal h0 h1 h2
    cases m with
    | zero => omega
    | succ m =>
      unfold chs
      split
      · rfl
      · split
        · exact take_congr (fun t ht => (hs.tools t ht).2.2.2.1) (fun o k hk1 hk2 => by show (chs s w n o k).2 = (chs s w m o k).2; rw [ih m o k hk1 (by omega) (by omega)]) _
        · rfl
theorem cho_eq {s : Shop} (hs : SOk s) {w : Bool} {off metal : Int} (h0 : 0 ≤ metal) : cho s w off metal = if fineB s off = true then (-1, 0) else if offB off = true then takeT s.tools (fun o m => (cho s w o m).2) w off metal s.tools.length else (-1, 31) := by
  show chs s w (metal.toNat + 1) off metal = _
  unfold chs
  split
  · rfl
  · split
    · exact take_congr (fun t ht => (hs.tools t ht).2.2.2.1) (fun o k hk1 hk2 => by show (chs s w metal.toNat o k).2 = (chs s w (k.toNat + 1) o k).2; rw [chs_stable hs metal.toNat (k.toNat + 1) o k hk1 (by omega) (by omega)]) _
    · rfl
theorem cnt_b {w : Bool} {l : List Int} (h : ∀ x ∈ l, 0 ≤ x ∧ x ≤ 31) : 0 ≤ cntL w l ∧ cntL w l ≤ 31 := by
  have k1 : ∀ (l : List Int) (a : Int), (∀ x ∈ l, 0 ≤ x ∧ x ≤ 31) → 0 ≤ a ∧ a ≤ 31 → 0 ≤ l.foldl (fun a b => max a b) a ∧ l.foldl (fun a b => max a b) a ≤ 31 := by
    intro l
    induction l with
    | nil => intro a _ h; exact h
    | cons x l ih => intro a hl ha; have := hl x List.mem_cons_self; exact ih (max a x) (fun y hy => hl y (List.mem_cons_of_mem _ hy)) (by omega)
  have k2 : ∀ (l : List Int) (a : Int), (∀ x ∈ l, 0 ≤ x ∧ x ≤ 31) → 0 ≤ a ∧ a ≤ 31 → 0 ≤ l.foldl (fun a b => min a b) a ∧ l.foldl (fun a b => min a b) a ≤ 31 := by
    intro l
    induction l with
    | nil => intro a _ h; exact h
    | cons x l ih => intro a hl ha; have := hl x List.mem_cons_self; exact ih (min a x) (fun y hy => hl y (List.mem_cons_of_mem _ hy)) (by omega)
  unfold cntL
  split
  · exact k1 l 0 h (by omega)
  · exact k2 l 31 h (by omega)
def CB (x : Int × Int) (k : Int) : Prop := 0 ≤ x.2 ∧ x.2 ≤ 31 ∧ -1 ≤ x.1 ∧ x.1 < max k 1
theorem CB.mono {x : Int × Int} {k m : Int} (h : CB x k) (hk : k ≤ m) : CB x m := by unfold CB at *; omega
theorem step_b {rec : Int → Int → Int} {w : Bool} {off metal : Int} (h : ∀ o m, 0 ≤ rec o m ∧ rec o m ≤ 31) {tk : Int × Int} {i : Nat} {t : Tri} (hk : CB tk i) : CB (stepT rec w off metal tk i t) ((i + 1 : Nat) : Int) := by
  have hb : 0 ≤ cntL w (hitL rec off metal t (widM t)) ∧ cntL w (hitL rec off metal t (widM t)) ≤ 31 := cnt_b fun x hx => by
    obtain ⟨j, _, rfl⟩ := List.mem_map.1 hx
    exact h _ _
  have hk1 : CB tk ((i + 1 : Nat) : Int) := hk.mono (by omega)
  unfold stepT
  split
  · exact hk1
  · split
    · exact hk1
    · split
      · unfold CB at *; simp only; omega
      · exact hk1
theorem take_b {T : List Tri} {rec : Int → Int → Int} {w : Bool} {off metal : Int} (h : ∀ o m, 0 ≤ rec o m ∧ rec o m ≤ 31) (i : Nat) : CB (takeT T rec w off metal i) i := by
  induction i with
  | zero => unfold takeT CB; simp; omega
  | succ i ih =>
    unfold takeT
    cases ht : T[i]? with
    | none => exact ih.mono (by omega)
    | some t => exact step_b h ih
theorem chs_b (s : Shop) (w : Bool) : ∀ (n : Nat) (off metal : Int), CB (chs s w n off metal) s.tools.length := by
  intro n
  induction n with
  | zero => intro off metal; unfold chs CB; simp; omega
  | succ n ih =>
    intro off metal
    unfold chs
    split
    · unfold CB; simp; omega
    · split
      · exact take_b (fun o m => ⟨(ih o m).1, (ih o m).2.1⟩) _
      · unfold CB; simp; omega
theorem cho_b (s : Shop) (w : Bool) (off metal : Int) : CB (cho s w off metal) s.tools.length := chs_b s w _ off metal
def Memo (s : Shop) (w : Bool) (es : List (U × U)) : Prop := ∀ p ∈ es, ∃ off metal : Int, p = (spanU off metal, spanU (cho s w off metal).1 (cho s w off metal).2)
theorem Memo.nil (s : Shop) (w : Bool) : Memo s w [] := fun _ h => by cases h
theorem Memo.get {s : Shop} {w : Bool} {es : List (U × U)} (h : Memo s w es) {off metal : Int} {u : U} (hg : getK es (spanU off metal) = some u) : u = spanU (cho s w off metal).1 (cho s w off metal).2 := by
  obtain ⟨o, m, e⟩ := h _ (getK_mem hg)
  simp only [Prod.mk.injEq, U.agg.injEq, List.cons.injEq, U.int.injEq, true_and, and_true] at e
  obtain ⟨⟨rfl, rfl⟩, rfl⟩ := e
  rfl
theorem Memo.put {s : Shop} {w : Bool} {es : List (U × U)} (h : Memo s w es) (off metal : Int) : Memo s w (setK es (spanU off metal) (spanU (cho s w off metal).1 (cho s w off metal).2)) := fun p hp => by
  rcases mem_setK hp with rfl | hp
  · exact ⟨off, metal, rfl⟩
  · exact h p hp
theorem eq80 (a b c d : Int) : eqT Try.prog 80 (valK (spanU a b)) (valK (spanU c d)) = some ((a == c) && (b == d)) := by
  have h : eqT Try.prog 80 (valK (spanU a b)) (valK (spanU c d)) = Vam.cond (ieq a c) (Vam.cond (ieq b d) (some true) (some false)) (some false) := by kernel_rfl
  rw [h, ieq_eq, ieq_eq]
  cases a == c <;> cases b == d <;> rfl
theorem same80 (a b : Int) : sameV (valK (spanU a b)) (valK (spanU a b)) = true := by
  have h : sameV (valK (spanU a b)) (valK (spanU a b)) = Vam.cond (ieq a a) (Vam.cond (ieq b b) true false) false := by kernel_rfl
  rw [h, ieq_eq, ieq_eq, show (a == a) = true by simp, show (b == b) = true by simp]; rfl
theorem keyOk {s : Shop} {w : Bool} {es : List (U × U)} (h : Memo s w es) (off metal : Int) : KeyOk Try.prog 80 (spanU off metal) es := by
  refine ⟨rfl, ?_, same80 _ _, fun p hp => ?_⟩
  · kernel_rfl
  · obtain ⟨o, m, rfl⟩ := h p hp
    refine ⟨rfl, _, eq80 _ _ _ _, ?_⟩
    simp only [Bool.and_eq_true, beq_iff_eq, U.agg.injEq, List.cons.injEq, U.int.injEq, true_and, and_true]
    omega
theorem NB.lst {k : Kd} {z : Nat} {es : List U} (h : ∀ c ∈ flatU es, NB c) : NB (.lst k z es) := fun φ S v hv => by
  cases hv with
  | nils => exact .nils _ _
  | over _ _ h0 => exact .over _ _ h0
  | slice b off len cc sz l l1 l2 k es h1 h2 h3 h4 h5 h6 h7 => exact .slice b off len cc _ l l1 l2 _ es h1 h2 (LU_all h3 fun v u hu hv => h u hu _ _ _ hv) h4 h5 h6 h7
def accI (l : List Int) : U := match l with
  | [] => .lst .full 0 []
  | l => .lst .own 1 (intsU l)
theorem nb_ints (k : Kd) (z : Nat) (l : List Int) : NB (.lst k z (intsU l)) := NB.lst fun c hc => by
  obtain ⟨u, h1, h2⟩ := List.mem_flatMap.1 hc
  obtain ⟨n, _, rfl⟩ := List.mem_map.1 h1
  have h2 : c ∈ [U.int .i64 n] := h2
  rcases List.mem_singleton.1 h2 with rfl; exact NB.int _ _
theorem nb_acc (l : List Int) : NB (accI l) := by
  cases l with
  | nil => exact NB.lst fun c hc => by cases hc
  | cons x l => exact nb_ints _ _ _
theorem accI_snoc (x : Int) (l : List Int) : accI (l ++ [x]) = .lst .own 1 (intsU l ++ [.int .i64 x]) := by
  cases l <;> simp [accI]
theorem at_mid {P M l r : List SB} {i : Nat} (h : i < l.length) : (P ++ (M ++ (l ++ r)))[P.length + M.length + i]? = l[i]? := by
  rw [List.getElem?_append_right (by omega), List.getElem?_append_right (by omega), List.getElem?_append_left (by omega)]
  congr 1; omega
theorem set_mid {P M l r : List SB} {i : Nat} (x : SB) (h : i < l.length) : (P ++ (M ++ (l ++ r))).set (P.length + M.length + i) x = P ++ (M ++ (l.set i x ++ r)) := by
  rw [List.set_append_right _ _ (by omega), show P.length + M.length + i - P.length = M.length + i by omega, List.set_append_right _ _ (by omega), show M.length + i - M.length = i by omega, List.set_append_left _ _ (by omega)]
theorem k_cutE {P : Program} {s : St} {a b : Code} {Q : Ex → St → Prop} (M : St → Prop) (h : Wp P is orc a s fun e s' => (e = .normal ∧ M s') ∨ (e ≠ .normal ∧ Q e s')) (k : ∀ s', M s' → Wp P is orc b s' Q) : Wp P is orc (.seq a b) s Q :=
  k_seq (h.mono fun e s' h => by
    rcases h with ⟨rfl, h⟩ | ⟨h1, h2⟩
    · exact k s' h
    · cases e with
      | normal => exact absurd rfl h1
      | _ => exact h2)
def findRange : Code → Option (Code × Code)
  | .rangeFunc _ _ a b => some (a, b)
  | .seq a b => match findRange a with | some x => some x | none => findRange b
  | .cond _ a b => match findRange a with | some x => some x | none => findRange b
  | .block _ b => findRange b
  | .loop b => findRange b
  | .scope b => findRange b
  | _ => none
theorem hit_succ (rec : Int → Int → Int) (off metal : Int) (t : Tri) (j : Nat) : hitL rec off metal t (j + 1) = hitL rec off metal t j ++ [rec (off + (t.a + j)) (metal - t.c)] := by
  unfold hitL
  rw [List.range_succ, List.map_append]; rfl
theorem Ext.cons {cs : List U} {l : List SB} (h : ∀ c ∈ cs, NB c) (k : Ext l) : Ext (.box cs :: l) := fun x hx => by
  rcases List.mem_cons.1 hx with rfl | hx
  · exact ⟨cs, rfl, h⟩
  · exact k x hx
theorem nb_two (a b : Int) : ∀ c ∈ [U.int .i64 a, .int .i64 b], NB c := fun c hc => by
  simp only [List.mem_cons, List.not_mem_nil, or_false] at hc
  rcases hc with rfl | rfl <;> exact NB.int _ _
theorem nb_three (a b d : Int) : ∀ c ∈ [U.int .i64 a, .int .i64 b, .int .i64 d], NB c := fun c hc => by
  simp only [List.mem_cons, List.not_mem_nil, or_false] at hc
  rcases hc with rfl | rfl | rfl <;> exact NB.int _ _
theorem nb_one {u : U} (h : NB u) : ∀ c ∈ [u], NB c := fun c hc => by
  rcases List.mem_singleton.1 hc with rfl; exact h
theorem cl52 : Program.cellsOf Try.prog 52 = 3 := by kernel_rfl
theorem fld117_0 : fieldOf Try.prog 117 0 = some (0, 114) := by kernel_rfl
theorem fld117_1 : fieldOf Try.prog 117 1 = some (1, 4) := by kernel_rfl
theorem fld117_2 : fieldOf Try.prog 117 2 = some (2, 115) := by kernel_rfl
theorem fld78_0 : fieldOf Try.prog 78 0 = some (0, 3) := by kernel_rfl
theorem pl78 : plcOf Try.prog 78 = some [(0, 1), (1, 1)] := by kernel_rfl
theorem sh112 : shOf Try.prog 112 = .one := by kernel_rfl
theorem sh114 : shOf Try.prog 114 = .one := by kernel_rfl
theorem sh115 : shOf Try.prog 115 = .one := by kernel_rfl
theorem sh123 : shOf Try.prog 123 = .one := by kernel_rfl
theorem sh22 : shOf Try.prog 22 = .one := by kernel_rfl
theorem sh4 : shOf Try.prog 4 = .one := by kernel_rfl
theorem sh52 : shOf Try.prog 52 = .many 3 := by kernel_rfl
theorem sh71 : shOf Try.prog 71 = .one := by kernel_rfl
theorem sh76 : shOf Try.prog 76 = .one := by kernel_rfl
theorem sh78 : shOf Try.prog 78 = .many 2 := by kernel_rfl
theorem sh80 : shOf Try.prog 80 = .many 2 := by kernel_rfl
theorem ty112 : tyOf Try.prog 112 = .slice 3 := by kernel_rfl
theorem ty22 : tyOf Try.prog 22 = .slice 52 := by kernel_rfl
theorem ty123 : tyOf Try.prog 123 = .map 80 78 := by kernel_rfl
theorem by3 : Program.bytesOf Try.prog 3 = 8 := by kernel_rfl
theorem ze3 : zeroL Try.prog 3 = some ((.cons (.int .i64 0) .nil) : V) := by kernel_rfl
theorem ze112 : zeroL Try.prog 112 = some ((.cons .nils .nil) : V) := by kernel_rfl
theorem ze78 : zeroL Try.prog 78 = some ((.cons (.int .i64 0) (.cons (.int .i64 0) .nil)) : V) := by kernel_rfl
theorem zv78 : zeroV Try.prog 78 = some (.agg (ofList [.int .i64 0, .int .i64 0])) := by kernel_rfl
theorem ap112_112 : AppT Try.prog 112 112 3 1 8 ((.cons (.int .i64 0) .nil) : V) := ⟨ty112, ⟨_, ty112⟩, cl3, by decide, by3, ze3, rfl⟩
def cntF (w : Bool) : Nat := if w then 74 else 81
theorem wpc_cnt (hi : Off is) (w : Bool) (l : List Int) (hl : l.length ≤ 4096) (st : List SB) : WpC Try.prog is orc (cntF w) [.lst .ro 1 (intsU l)] st fun u st' => u = .int .i64 (cntL w l) ∧ st' = st := by
  cases w with
  | true => exact wpc_ret (ret74 hi l hl)
  | false => exact wpc_ret (ret81 hi l hl)
structure Sr (s : Shop) (w : Bool) (L c wv mp kn fi ch : Nat) (X : List (U × U) → List SB) : Prop where
  len : ∀ es, (X es).length = L
  bd : ∀ es, Memo s w es → ∀ x ∈ X es, BdS L x
  hc : ∀ es, (X es)[c]? = some (.box s.cs6)
  hw : ∀ es, (X es)[wv]? = some (.box [.fn (cntF w) [] [], .bool w, .fn 80 [] []])
  hm : ∀ es, (X es)[mp]? = some (.map es)
  hk : ∀ es, (X es)[kn]? = some (.box [.mp mp])
  hf : ∀ es, (X es)[fi]? = some (.box [.fn 75 [.agg s.cs6] []])
  hh : ∀ es, (X es)[ch]? = some (.box [.fn 82 [] [.box fi 0, .box kn 0, .box c 0, .box ch 0, .box wv 0]])
  hs : ∀ es es', (X es).set mp (.map es') = X es'
  ml : mp < L
def Bh (L : Nat) (e : List SB) : Prop := ∀ x ∈ e, BdS (L + e.length) x
theorem Bh.app {L : Nat} {e g : List SB} (h : Bh L e) (k : Ext g) : Bh L (e ++ g) := fun x hx => by
  rcases List.mem_append.1 hx with hx | hx
  · exact BdS.mono (h x hx) (by rw [List.length_append]; omega)
  · exact k.bd _ x hx
noncomputable def b82 : Code := (Try.f82.body).getD .skip
theorem body82 : bodyOf Try.prog 82 = some (93, b82, [.cell 7 78]) := by kernel_rfl
theorem pure82 : pureFn Try.prog 82 = false := by kernel_rfl
noncomputable def rg82 : Code × Code := (findRange b82).getD (.skip, .skip)
abbrev rec82 (s : Shop) (w : Bool) : Int → Int → Int := fun o m => (cho s w o m).2
noncomputable def lp82 (fi kn c ch wv p6 p7 p8 p12 : Nat) (i len : Int) : Lp := ⟨fun j => dg (lookU [(1, .box fi 0), (2, .box kn 0), (3, .box c 0), (4, .box ch 0), (5, .box wv 0), (6, .box p6 0), (7, .box p7 0), (8, .box p8 0), (11, .int .i64 i), (12, .box p12 0), (38, .int .i64 len), (39, .int .i64 i), (59, .fn 85 [] [.box (p12 + 2) 0, .box (p12 + 1) 0])] j .junk), [60], rg82.1, rg82.2⟩
def R82 (s : Shop) (w : Bool) (off metal : Int) (t : Tri) (X : List (U × U) → List SB) (M : List SB) (q : SB) (j : Nat) (es : List (U × U)) (r : List SB) : List SB := X es ++ (M ++ ([.box [accI (hitL (rec82 s w) off metal t j)], .box [.int .i64 off, .int .i64 metal], .box [.int .i64 t.a, .int .i64 t.b, .int .i64 t.c], q] ++ r))
def I82 (s : Shop) (w : Bool) (off metal : Int) (t : Tri) (X : List (U × U) → List SB) (M : List SB) (lp : Lp) (j : Nat) (Y : List SB) : Prop := ∃ es, Memo s w es ∧ (w = true → ∀ x ∈ hitL (rec82 s w) off metal t j, x ≠ 31) ∧ Y = R82 s w off metal t X M (.loop .ready lp) j es []
def F82 (s : Shop) (w : Bool) (off metal : Int) (t : Tri) (X : List (U × U) → List SB) (M : List SB) (lp : Lp) (Y : List SB) : Prop := ∃ es j, Memo s w es ∧ w = true ∧ j < widM t ∧ rec82 s w (off + (t.a + j)) (metal - t.c) = 31 ∧ Y = R82 s w off metal t X M (.loop (.done (.exit 1)) lp) j es []
theorem R82_app (s : Shop) (w : Bool) (off metal : Int) (t : Tri) (X : List (U × U) → List SB) (M : List SB) (q : SB) (j : Nat) (es : List (U × U)) (r r' : List SB) : R82 s w off metal t X M q j es r ++ r' = R82 s w off metal t X M q j es (r ++ r') := by
  unfold R82
  simp only [List.append_assoc]
theorem R82_set {s : Shop} {w : Bool} {off metal : Int} {t : Tri} {X : List (U × U) → List SB} {M : List SB} {q : SB} {j : Nat} {es : List (U × U)} {r : List SB} {L : Nat} (hL : (X es).length = L) (q' : SB) : (R82 s w off metal t X M q j es r).set (L + M.length + 3) q' = R82 s w off metal t X M q' j es r := by
  unfold R82
  rw [← hL, set_mid _ (by simp)]; rfl
theorem R82_at {s : Shop} {w : Bool} {off metal : Int} {t : Tri} {X : List (U × U) → List SB} {M : List SB} {q : SB} {j : Nat} {es : List (U × U)} {r : List SB} {L : Nat} (hL : (X es).length = L) {i : Nat} (hi : i < 4) : (R82 s w off metal t X M q j es r)[L + M.length + i]? = ([SB.box [accI (hitL (rec82 s w) off metal t j)], .box [.int .i64 off, .int .i64 metal], .box [.int .i64 t.a, .int .i64 t.b, .int .i64 t.c], q])[i]? := by
  unfold R82
  rw [← hL]; exact at_mid hi
set_option maxHeartbeats 4000000 in
theorem yield82 (hi : Off is) {s : Shop} {w : Bool} {L c wv mp kn fi ch : Nat} {X : List (U × U) → List SB} (h : Sr s w L c wv mp kn fi ch X) {M : List SB} (hB : Bh L M) {off metal : Int} {t : Tri} {p6 p7 p8 : Nat} {i len : Int}
    (hrec : ∀ (o : Int) (es : List (U × U)) (E : List SB), Memo s w es → Bh L E → WpC Try.prog is orc 82 [spanU o (metal - t.c), .box fi 0, .box kn 0, .box c 0, .box ch 0, .box wv 0] (X es ++ E) fun u st' => u = spanU (cho s w o (metal - t.c)).1 (cho s w o (metal - t.c)).2 ∧ ∃ es', Memo s w es' ∧ st' = X es' ++ E)
    (hlp : ∀ k, Bd (L + M.length + 4) ((lp82 fi kn c ch wv p6 p7 p8 (L + M.length + 0) i len).fr k)) (j : Nat) (Y e2 : List SB) (hj : j < widM t) (hj2 : j ≤ 100)
    (hY : I82 s w off metal t X M (lp82 fi kn c ch wv p6 p7 p8 (L + M.length + 0) i len) j Y) (he2 : Ext e2) :
    WpY Try.prog is orc (L + M.length + 3) (lp82 fi kn c ch wv p6 p7 p8 (L + M.length + 0) i len) [spanU (off + (t.a + j)) (metal - t.c)] (Y ++ e2) fun u st' => ∃ X' e', Ext e' ∧ st' = X' ++ (e2 ++ e') ∧
      ((u = .bool true ∧ I82 s w off metal t X M (lp82 fi kn c ch wv p6 p7 p8 (L + M.length + 0) i len) (j + 1) X') ∨ (u = .bool false ∧ F82 s w off metal t X M (lp82 fi kn c ch wv p6 p7 p8 (L + M.length + 0) i len) X')) := by
  obtain ⟨es, hM, hne, rfl⟩ := hY
  rw [R82_app, List.nil_append]
  have hL := h.len es
  generalize hlpd : lp82 fi kn c ch wv p6 p7 p8 (L + M.length + 0) i len = lp at hlp
  have hlp1 : lp.assign = rg82.1 := by rw [← hlpd]; rfl
  have hlp2 : lp.body = rg82.2 := by rw [← hlpd]; rfl
  have hlp3 : lp.ps = [60] := by rw [← hlpd]; rfl
  have hlp4 : lp.fr = (lp82 fi kn c ch wv p6 p7 p8 (L + M.length + 0) i len).fr := by rw [← hlpd]
  unfold WpY
  rw [hlp1, hlp2, hlp3, hlp4]
  generalize hYd : R82 s w off metal t X M (.loop .ready lp) j es e2 = Y
  have hYl : Y.length = L + M.length + 4 + e2.length := by rw [← hYd]; unfold R82; simp [hL]; omega
  refine k_region ?_
  refine o_alloc rfl ze80 ?_
  refine o_storeN rfl (at_new _ _) sh80 rfl rfl rfl rfl rfl ?_
  refine o_nil ?_
  have hbusy : (((Y ++ [SB.box [.int .i64 0, .int .i64 0]]).set Y.length (SB.box [.int .i64 (off + (t.a + j)), .int .i64 (metal - t.c)])).set (L + M.length + 3) (.loop .busy lp)) = R82 s w off metal t X M (.loop .busy lp) j es (e2 ++ [SB.box [.int .i64 (off + (t.a + j)), .int .i64 (metal - t.c)]]) := by
    rw [set_end, ← hYd, R82_app, R82_set hL]
  refine ⟨rfl, ?_, ?_⟩
  · show ((Y ++ [SB.box _]).set Y.length (SB.box _))[L + M.length + 3]? = _
    rw [set_end, ← hYd]
    exact at_pre (R82_at hL (by omega))
  have hE0 : ∀ q es r, R82 s w off metal t X M q j es r = X es ++ (M ++ ([SB.box [accI (hitL (rec82 s w) off metal t j)], .box [.int .i64 off, .int .i64 metal], .box [.int .i64 t.a, .int .i64 t.b, .int .i64 t.c], q] ++ r)) := fun _ _ _ => rfl
  generalize hb13 : SB.box [.int .i64 (off + (t.a + j)), .int .i64 (metal - t.c)] = b13 at hbusy
  have hE : Bh L (M ++ ([SB.box [accI (hitL (rec82 s w) off metal t j)], .box [.int .i64 off, .int .i64 metal], .box [.int .i64 t.a, .int .i64 t.b, .int .i64 t.c], .loop .busy lp] ++ (e2 ++ [b13]))) := by
    intro x hx
    have hlen : L + (M ++ ([SB.box [accI (hitL (rec82 s w) off metal t j)], .box [.int .i64 off, .int .i64 metal], .box [.int .i64 t.a, .int .i64 t.b, .int .i64 t.c], .loop .busy lp] ++ (e2 ++ [b13]))).length = L + M.length + 4 + e2.length + 1 := by simp; omega
    rw [hlen]
    simp only [List.mem_append, List.mem_cons, List.not_mem_nil, or_false] at hx
    rcases hx with hx | (rfl | rfl | rfl | rfl) | hx | rfl
    · exact BdS.mono (hB x hx) (by omega)
    · exact fun c hc => (nb_one (nb_acc _) c hc).bd _
    · exact fun c hc => (nb_two _ _ c hc).bd _
    · exact fun c hc => (nb_three _ _ _ c hc).bd _
    · exact fun k => Bd.mono (hlp k) (by omega)
    · exact he2.bd _ x hx
    · rw [← hb13]; exact fun c hc => (nb_two _ _ c hc).bd _
  rw [show (L + M.length + 3) = L + M.length + 3 from rfl]
  refine k_gen [(4, .box ch 0), (5, .box wv 0), (12, .box (L + M.length + 0) 0), (13, .box Y.length 0)] (X es ++ (M ++ ([SB.box [accI (hitL (rec82 s w) off metal t j)], .box [.int .i64 off, .int .i64 metal], .box [.int .i64 t.a, .int .i64 t.b, .int .i64 t.c], .loop .busy lp] ++ (e2 ++ [b13])))) (.cons rfl (.cons rfl (.cons rfl (.cons rfl (.nil rfl))))) (by rw [← hE0, ← hbusy, ← hb13]; rfl) fun fr => ?_
  refine k_block ?_
  refine k_seq (k_region ?_)
  refine o_load1 rfl rfl (at_pre (h.hh es)) sh71 rfl ?_
  refine o_loadN rfl rfl (cs := [.int .i64 (off + (t.a + j)), .int .i64 (metal - t.c)]) (by
    show (X es ++ _)[Y.length]? = _
    rw [← hE0, show e2 ++ [b13] = e2 ++ [b13] from rfl, ← R82_app, hb13, show Y.length = (R82 s w off metal t X M (.loop .busy lp) j es e2).length by rw [hYl]; unfold R82; simp [hL]; omega]
    exact at_new _ _) sh80 rfl ?_
  refine o_callV rfl rfl (hrec _ es _ hM hE) (.lrefl _) (fun u st1 hM1 => ?_)
  obtain ⟨rfl, es2, hM2, rfl⟩ := hM1
  have hL2 := h.len es2
  refine o_field1 rfl rfl fld78_1 sh3 rfl ?_
  refine o_assign rfl ?_
  refine o_nil ?_
  refine k_gen [(5, .box wv 0), (12, .box (L + M.length + 0) 0), (14, .int .i64 (rec82 s w (off + (t.a + j)) (metal - t.c)))] (R82 s w off metal t X M (.loop .busy lp) j es2 (e2 ++ [b13])) (.cons rfl (.cons rfl (.cons rfl (.nil rfl)))) rfl fun fr => ?_
  refine k_cutE (fun s' => (w = true → rec82 s w (off + (t.a + j)) (metal - t.c) ≠ 31) ∧ s'.st = R82 s w off metal t X M (.loop .busy lp) j es2 (e2 ++ [b13]) ∧ Holds s' [(12, .box (L + M.length + 0) 0), (14, .int .i64 (rec82 s w (off + (t.a + j)) (metal - t.c)))]) ?_ (fun s' hM' => ?_)
  · refine k_seq (k_region ?_)
    refine o_move rfl ?_
    refine o_eql rfl rfl rfl ?_
    refine o_move rfl ?_
    refine o_guard rfl rfl rfl rfl (fun h6 => ?_) (fun h6 => ?_)
    · refine o_faddr rfl rfl fld117_1 ?_
      refine o_gD rfl rfl rfl rfl h6 ?_
      refine o_load1 rfl rfl (at_pre (h.hw es2)) sh4 rfl ?_
      refine o_pickT rfl rfl h6 ?_
      refine o_nil ?_
      refine k_cond rfl (fun h7 => ?_) (fun h7 => ?_)
      · refine k_exit ?_
        refine .inr ⟨(fun h => by cases h), ?_, ?_⟩
        · exact R82_at hL2 (by omega)
        · refine ⟨R82 s w off metal t X M (.loop (.done (.exit 1)) lp) j es2 [], [b13], ?_, ?_, .inr ⟨rfl, es2, j, hM2, h7, hj, of_decide_eq_true h6, rfl⟩⟩
          · rw [← hb13]; exact Ext.cons (nb_two _ _) .nil
          · show (R82 s w off metal t X M (.loop .busy lp) j es2 (e2 ++ [b13])).set (L + M.length + 3) _ = _
            rw [R82_set hL2, R82_app]; rfl
      · refine k_skip ?_
        exact .inl ⟨rfl, fun hw => absurd (hw.symm.trans h7) (by decide), rfl, .cons rfl (.cons rfl (.nil rfl))⟩
    · refine o_gS rfl rfl rfl rfl h6 ?_
      refine o_pickF rfl rfl h6 ?_
      refine o_nil ?_
      refine k_cond rfl (fun h => by cases h) (fun _ => ?_)
      refine k_skip ?_
      exact .inl ⟨rfl, fun _ => of_decide_eq_false h6, rfl, .cons rfl (.cons rfl (.nil rfl))⟩
  · obtain ⟨hne2, hst, hs⟩ := hM'
    refine k_gen _ _ hs hst fun fr => ?_
    have hsu := hit_succ (rec82 s w) off metal t j
    have hat : ∀ q, (R82 s w off metal t X M q j es2 (e2 ++ [b13]))[L + M.length + 0]? = some (SB.box [accI (hitL (rec82 s w) off metal t j)]) := fun q => R82_at hL2 (by omega)
    have hset : ∀ y, ((R82 s w off metal t X M (.loop .busy lp) j es2 (e2 ++ [b13])).set (L + M.length + 0) (SB.box [y])) = X es2 ++ (M ++ ([SB.box [y], .box [.int .i64 off, .int .i64 metal], .box [.int .i64 t.a, .int .i64 t.b, .int .i64 t.c], .loop .busy lp] ++ (e2 ++ [b13]))) := fun y => by
      unfold R82; rw [← hL2, set_mid _ (by simp)]; rfl
    have hlen : (hitL (rec82 s w) off metal t j).length = j := by unfold hitL; simp
    have hfin : ∀ y, y = accI (hitL (rec82 s w) off metal t j ++ [rec82 s w (off + (t.a + j)) (metal - t.c)]) → ∀ st : List SB, st = X es2 ++ (M ++ ([SB.box [y], .box [.int .i64 off, .int .i64 metal], .box [.int .i64 t.a, .int .i64 t.b, .int .i64 t.c], .loop .busy lp] ++ (e2 ++ [b13]))) →
        st[L + M.length + 3]? = some (.loop .busy lp) ∧ ∃ X' e', Ext e' ∧ st.set (L + M.length + 3) (.loop .ready lp) = X' ++ (e2 ++ e') ∧ ((U.bool true = .bool true ∧ I82 s w off metal t X M lp (j + 1) X') ∨ (U.bool true = .bool false ∧ F82 s w off metal t X M lp X')) := by
      rintro y rfl st rfl
      have e1 : X es2 ++ (M ++ ([SB.box [accI (hitL (rec82 s w) off metal t j ++ [rec82 s w (off + (t.a + j)) (metal - t.c)])], .box [.int .i64 off, .int .i64 metal], .box [.int .i64 t.a, .int .i64 t.b, .int .i64 t.c], .loop .busy lp] ++ (e2 ++ [b13]))) = R82 s w off metal t X M (.loop .busy lp) (j + 1) es2 (e2 ++ [b13]) := by
        unfold R82; rw [hsu]
      rw [e1]
      refine ⟨R82_at hL2 (by omega), R82 s w off metal t X M (.loop .ready lp) (j + 1) es2 [], [b13], ?_, ?_, .inl ⟨rfl, es2, hM2, fun hw => ?_, rfl⟩⟩
      · rw [← hb13]; exact Ext.cons (nb_two _ _) .nil
      · rw [R82_set hL2, R82_app]; rfl
      · rw [hsu]
        intro x hx
        rcases List.mem_append.1 hx with hx | hx
        · exact hne hw x hx
        · rcases List.mem_singleton.1 hx with rfl; exact hne2 hw
    refine k_region ?_
    generalize hitL (rec82 s w) off metal t j = l at hat hset hlen hfin
    cases l with
    | nil =>
      refine o_load1 rfl rfl (hat _) sh112 rfl ?_
      refine o_move rfl ?_
      refine o_lit (es := [.int .i64 (rec82 s w (off + (t.a + j)) (metal - t.c))]) rfl ty112 ze3 cl3 rfl rfl rfl rfl rfl rfl rfl rfl ?_
      refine o_appendF rfl ap112_112 rfl rfl (by simp) (by simp) (by simp [flatU, cellsU, oneU]) (by simp) ?_
      refine o_store1 rfl (hat _) sh112 rfl rfl ?_
      refine o_nil ?_
      refine hfin _ rfl _ ?_
      exact hset _
    | cons y l =>
      refine o_load1 rfl rfl (hat _) sh112 rfl ?_
      refine o_move rfl ?_
      refine o_lit (es := [.int .i64 (rec82 s w (off + (t.a + j)) (metal - t.c))]) rfl ty112 ze3 cl3 rfl rfl rfl rfl rfl rfl rfl rfl ?_
      refine o_appendC (L + M.length + 0) 0 rfl ap112_112 ?_ (hat _) rfl rfl (by simp) (by simp) (by simp [flatU, cellsU, oneU]) (by simp at hlen ⊢; omega) ?_
      · show (Nat.beq 71 71 && (Nat.beq (L + M.length + 0) (L + M.length + 0) && Nat.beq 0 0) || false) = true
        rw [Nat.beq_refl (L + M.length + 0)]; rfl
      refine o_store1 rfl (cs := [.lst .ro 1 (intsU (y :: l))]) (List.getElem?_set_self (List.getElem?_eq_some_iff.1 (hat _)).1) sh112 rfl rfl ?_
      refine o_nil ?_
      refine hfin _ (by rw [accI_snoc]) _ ?_
      show (List.set (List.set _ (L + M.length + 0) (SB.box [_])) (L + M.length + 0) (SB.box [_])) = _
      rw [List.set_set]
      exact hset _
theorem R82_take {s : Shop} {w : Bool} {off metal : Int} {t : Tri} {X : List (U × U) → List SB} {M : List SB} {q : SB} {j : Nat} {es : List (U × U)} {L : Nat} (hL : (X es).length = L) : (R82 s w off metal t X M q j es []).take (L + M.length + 3) = X es ++ (M ++ [SB.box [accI (hitL (rec82 s w) off metal t j)], .box [.int .i64 off, .int .i64 metal], .box [.int .i64 t.a, .int .i64 t.b, .int .i64 t.c]]) := by
  have e : R82 s w off metal t X M q j es [] = (X es ++ (M ++ [SB.box [accI (hitL (rec82 s w) off metal t j)], .box [.int .i64 off, .int .i64 metal], .box [.int .i64 t.a, .int .i64 t.b, .int .i64 t.c]])) ++ [q] := by
    unfold R82; rw [List.append_assoc, List.append_assoc]; rfl
  rw [e, List.take_left' (by simp [hL]; omega)]
theorem R82_bd {s : Shop} {w : Bool} {L c wv mp kn fi ch : Nat} {X : List (U × U) → List SB} (h : Sr s w L c wv mp kn fi ch X) {M : List SB} (hB : Bh L M) {off metal : Int} {t : Tri} {j : Nat} {es : List (U × U)} (hM : Memo s w es) :
    ∀ x ∈ X es ++ (M ++ [SB.box [accI (hitL (rec82 s w) off metal t j)], .box [.int .i64 off, .int .i64 metal], .box [.int .i64 t.a, .int .i64 t.b, .int .i64 t.c]]), BdS (L + M.length + 3) x := by
  intro x hx
  simp only [List.mem_append, List.mem_cons, List.not_mem_nil, or_false] at hx
  rcases hx with hx | hx | rfl | rfl | rfl
  · exact BdS.mono (h.bd es hM x hx) (by omega)
  · exact BdS.mono (hB x hx) (by omega)
  · exact fun c hc => (nb_one (nb_acc _) c hc).bd _
  · exact fun c hc => (nb_two _ _ c hc).bd _
  · exact fun c hc => (nb_three _ _ _ c hc).bd _
theorem Sr.lts {s : Shop} {w : Bool} {L c wv mp kn fi ch : Nat} {X : List (U × U) → List SB} (h : Sr s w L c wv mp kn fi ch X) : c < L ∧ wv < L ∧ kn < L ∧ fi < L ∧ ch < L := by
  have k : ∀ {i x}, (X [])[i]? = some x → i < L := fun e => by rw [← h.len []]; exact (List.getElem?_eq_some_iff.1 e).1
  exact ⟨k (h.hc []), k (h.hw []), k (h.hk []), k (h.hf []), k (h.hh [])⟩
theorem lp82_bd {fi kn c ch wv p6 p7 p8 p12 N : Nat} {i len : Int} (h : fi < N ∧ kn < N ∧ c < N ∧ ch < N ∧ wv < N ∧ p6 < N ∧ p7 < N ∧ p8 < N ∧ p12 + 2 < N) (k : Nat) : Bd N ((lp82 fi kn c ch wv p6 p7 p8 p12 i len).fr k) := by
  refine lookU_all (p := fun u => Bd N (dg u)) ?_ (Bd.junk _) k
  intro x hx
  simp only [List.mem_cons, List.not_mem_nil, or_false] at hx
  rcases hx with rfl | rfl | rfl | rfl | rfl | rfl | rfl | rfl | rfl | rfl | rfl | rfl | rfl
  case inr.inr.inr.inr.inr.inr.inr.inr.inl => exact Bd.int _ _ _
  case inr.inr.inr.inr.inr.inr.inr.inr.inr.inr.inl => exact Bd.int _ _ _
  case inr.inr.inr.inr.inr.inr.inr.inr.inr.inr.inr.inl => exact Bd.int _ _ _
  case inr.inr.inr.inr.inr.inr.inr.inr.inr.inr.inr.inr =>
    refine Bd.fn (fun u hu => by cases hu) fun u hu => ?_
    simp only [List.map_cons, List.map_nil, List.mem_cons, List.not_mem_nil, or_false] at hu
    rcases hu with rfl | rfl <;> exact Bd.box (by omega)
  all_goals exact Bd.box (by omega)
theorem fin82 {s : Shop} {w : Bool} {L c wv mp kn fi ch : Nat} {X : List (U × U) → List SB} (h : Sr s w L c wv mp kn fi ch X) {es es' : List (U × U)} {e l g : List SB} {s1 : St} {off metal : Int} (hM : Memo s w es') (he : Bh L e)
    (hst : s1.st = X es' ++ (e ++ (l ++ g))) (h7 : s1.slot 7 = .box (L + e.length + 1) 0) (hl : l[1]? = some (.box [.int .i64 (cho s w off metal).1, .int .i64 (cho s w off metal).2])) :
    (Ex.ret = .normal ∨ Ex.ret = .ret) ∧ ∃ us, ResL Try.prog s1 [.cell 7 78] us ∧ ∃ r, UW (.u (tupU us)) (.u r) ∧ Bd (X es ++ e).length r ∧ (X es ++ e).length ≤ s1.st.length ∧ (∀ x ∈ s1.st.take (X es ++ e).length, BdS (X es ++ e).length x) ∧
      (dg r = spanU (cho s w off metal).1 (cho s w off metal).2 ∧ ∃ es', Memo s w es' ∧ s1.st.take (X es ++ e).length = X es' ++ e) := by
  have hl1 : 1 < l.length := by
    have := List.getElem?_eq_some_iff.1 hl; exact this.1
  have hL := h.len es'; have hL0 := h.len es
  have hb : s1.st[L + e.length + 1]? = some (.box [.int .i64 (cho s w off metal).1, .int .i64 (cho s w off metal).2]) := by
    rw [hst, ← hL, at_mid hl1, hl]
  have et : s1.st.take (X es ++ e).length = X es' ++ e := by
    rw [hst, ← List.append_assoc, List.take_left' (by simp [hL, hL0])]
  refine ⟨.inr rfl, _, .cons _ _ _ _ (.cellN 7 78 _ _ _ _ h7 hb sh78 rfl) .nil, _, .refl _, ?_, ?_, ?_, rfl, es', hM, et⟩
  · refine Bd.agg fun c hc => ?_
    have hc : c ∈ [U.int .i64 (cho s w off metal).1, .int .i64 (cho s w off metal).2] := hc
    simp only [List.mem_cons, List.not_mem_nil, or_false] at hc
    rcases hc with rfl | rfl <;> exact Bd.int _ _ _
  · rw [hst]; simp [hL, hL0]
  · rw [et, List.length_append, hL0]
    intro x hx
    rcases List.mem_append.1 hx with hx | hx
    · exact BdS.mono (h.bd es' hM x hx) (by omega)
    · exact he x hx
set_option maxHeartbeats 4000000 in
theorem wpc82 (hi : Off is) {s : Shop} (hk : SOk s) {w : Bool} {L c wv mp kn fi ch : Nat} {X : List (U × U) → List SB} (h : Sr s w L c wv mp kn fi ch X) : ∀ (n : Nat) (metal off : Int), metal < n → 0 ≤ metal → metal ≤ 30 → ∀ (es : List (U × U)) (e : List SB), Memo s w es → Bh L e →
    WpC Try.prog is orc 82 [spanU off metal, .box fi 0, .box kn 0, .box c 0, .box ch 0, .box wv 0] (X es ++ e) fun u st' => u = spanU (cho s w off metal).1 (cho s w off metal).2 ∧ ∃ es', Memo s w es' ∧ st' = X es' ++ e := by
  intro n
  induction n with
  | zero => intro metal off h1 h2; omega
  | succ n ih =>
    intro metal off hn h0 h30 es e hM he
    have hL := h.len es
    refine wpc_cut body82 pure82 rfl rfl ?_
    refine k_seq (k_region ?_)
    refine o_box rfl rfl ?_
    refine o_alloc rfl ze78 ?_
    refine o_nil ?_
    refine k_gen [(1, .box fi 0), (2, .box kn 0), (3, .box c 0), (4, .box ch 0), (5, .box wv 0), (6, .box (L + e.length + 0) 0), (7, .box (L + e.length + 1) 0)] (X es ++ (e ++ ([.box [.int .i64 off, .int .i64 metal], .box [.int .i64 0, .int .i64 0]] ++ [])))
      (.cons rfl (.cons rfl (.cons rfl (.cons rfl (.cons rfl (.cons (by show U.box (X es ++ e).length 0 = _; rw [List.length_append, hL]; rfl) (.cons (by show U.box ((X es ++ e) ++ [_]).length 0 = _; rw [List.length_append, List.length_append, hL]; rfl) (.nil rfl)))))))) (by show ((X es ++ e) ++ [_]) ++ [_] = _; rw [List.append_assoc (X es ++ e), List.append_assoc (X es)]; rfl) fun fr => ?_
    refine k_scope ?_
    refine k_seq ?_
    refine k_seq (k_region ?_)
    refine o_load1 rfl rfl (at_pre (h.hf es)) sh76 rfl ?_
    refine o_faddr rfl rfl fld80_0 ?_
    refine o_load1 rfl rfl (by rw [← hL]; exact at_mid (by simp)) sh3 rfl ?_
    refine o_callV rfl rfl (wpc_ret (ret75 hi s off)) (.lrefl _) (fun u st1 hM => ?_)
    obtain ⟨rfl, rfl⟩ := hM
    refine o_nil ?_
    refine k_cond rfl (fun h1 => ?_) (fun h1 => ?_)
    · refine k_seq (k_region ?_)
      refine o_build (cs := [.int .i64 (-1), .int .i64 0]) rfl ze78 pl78 rfl rfl ?_
      refine o_storeN rfl (by show _[L + e.length + 1]? = _; rw [← hL]; exact at_mid (by simp)) sh78 rfl rfl rfl rfl rfl ?_
      refine o_nil ?_
      refine k_gen [(7, .box (L + e.length + 1) 0)] (X es ++ (e ++ ([.box [.int .i64 off, .int .i64 metal], .box [.int .i64 (-1), .int .i64 0]] ++ []))) (.cons rfl (.nil rfl)) (by show (X es ++ (e ++ _)).set (L + e.length + 1) _ = _; rw [← hL, set_mid _ (by simp)]; rfl) fun fr => ?_
      refine k_ret ?_
      refine ⟨fun _ h => (by cases h), ?_⟩
      refine fin82 (off := off) (metal := metal) (l := [.box [.int .i64 off, .int .i64 metal], .box [.int .i64 (-1), .int .i64 0]]) (g := []) h hM he ?_ ?_ ?_
      · rfl
      · rfl
      · exact (by rw [show cho s w off metal = (-1, 0) by rw [cho_eq hk h0, if_pos h1]]; rfl)
    · have hnf : ¬ fineB s off = true := by rw [h1]; simp
      refine k_skip ?_
      refine k_seq (k_region ?_)
      refine o_build (cs := [.int .i64 (-1), .int .i64 31]) rfl ze78 pl78 rfl rfl ?_
      refine o_alloc rfl ze78 ?_
      refine o_storeN rfl (at_new _ _) sh78 rfl rfl rfl rfl rfl ?_
      refine o_nil ?_
      refine k_gen [(1, .box fi 0), (2, .box kn 0), (3, .box c 0), (4, .box ch 0), (5, .box wv 0), (6, .box (L + e.length + 0) 0), (7, .box (L + e.length + 1) 0), (8, .box (L + e.length + 2) 0)] (X es ++ (e ++ ([.box [.int .i64 off, .int .i64 metal], SB.box [.int .i64 0, .int .i64 0], .box [.int .i64 (-1), .int .i64 31]] ++ [])))
        (.cons rfl (.cons rfl (.cons rfl (.cons rfl (.cons rfl (.cons rfl (.cons rfl (.cons (by show U.box (X es ++ (e ++ _)).length 0 = _; rw [List.length_append, List.length_append, hL, ← Nat.add_assoc]; rfl) (.nil rfl))))))))) (by show ((X es ++ (e ++ _)) ++ [_]).set (X es ++ (e ++ _)).length _ = _; rw [set_end, List.append_assoc, List.append_assoc]; rfl) fun fr => ?_
      refine k_seq ?_
      refine k_seq (k_region ?_)
      refine o_faddr rfl rfl fld80_0 ?_
      refine o_load1 rfl rfl (by rw [← hL]; exact at_mid (by simp)) sh3 rfl ?_
      refine o_call rfl (ret47 hi off) (.lrefl _) ?_
      refine o_not rfl rfl ?_
      refine o_nil ?_
      refine k_cond rfl (fun h2 => ?_) (fun h2 => ?_)
      · have hno : offB off = false := (Bool.not_eq_true' _).mp h2
        refine k_seq (k_region ?_)
        refine o_loadN rfl (by rfl) (cs := [.int .i64 (-1), .int .i64 31]) (by show _[L + e.length + 2]? = _; rw [← hL]; exact at_mid (by simp)) sh78 rfl ?_
        refine o_storeN rfl (by show _[L + e.length + 1]? = _; rw [← hL]; exact at_mid (by simp)) sh78 rfl rfl rfl rfl rfl ?_
        refine o_nil ?_
        refine k_gen [(7, .box (L + e.length + 1) 0)] (X es ++ (e ++ ([.box [.int .i64 off, .int .i64 metal], .box [.int .i64 (-1), .int .i64 31], .box [.int .i64 (-1), .int .i64 31]] ++ []))) (.cons rfl (.nil rfl)) (by show (X es ++ (e ++ _)).set (L + e.length + 1) _ = _; rw [← hL, set_mid _ (by simp)]; rfl) fun fr => ?_
        refine k_ret ?_
        refine ⟨fun _ h => (by cases h), ?_⟩
        refine fin82 (off := off) (metal := metal) (l := [.box [.int .i64 off, .int .i64 metal], .box [.int .i64 (-1), .int .i64 31], .box [.int .i64 (-1), .int .i64 31]]) (g := []) h hM he ?_ ?_ ?_
        · rfl
        · rfl
        · exact (by rw [show cho s w off metal = (-1, 31) by rw [cho_eq hk h0, if_neg hnf, if_neg (by rw [hno]; simp)]]; rfl)
      · have hof : offB off = true := (Bool.not_eq_false' _).mp h2
        have ceq : cho s w off metal = takeT s.tools (fun o m => (cho s w o m).2) w off metal s.tools.length := by rw [cho_eq hk h0, if_neg hnf, if_pos hof]
        refine k_skip ?_
        refine k_seq ?_
        cases hg : getK es (spanU off metal) with
        | some u =>
          have hu := hM.get hg
          refine k_seq (k_region ?_)
          refine o_load1 rfl rfl (at_pre (h.hk es)) sh123 rfl ?_
          refine o_loadN rfl rfl (cs := [.int .i64 off, .int .i64 metal]) (by rw [← hL]; exact at_mid (by simp)) sh80 rfl ?_
          refine o_lookup (kt := 80) (el := 78) (z := spanU 0 0) (r := .tup [spanU (cho s w off metal).1 (cho s w off metal).2, .bool true]) rfl ty123 rfl (at_pre (h.hm es)) rfl (keyOk hM off metal) zv78 rfl (fun m hm => by cases hm; exact ⟨_, rfl⟩) (by show _ = match getK es (spanU off metal) with | some u => _ | none => _; rw [hg, hu]; rfl) ?_
          refine o_move rfl ?_
          refine o_extract rfl rfl rfl ?_
          refine o_extract rfl rfl rfl ?_
          refine o_alloc rfl ze78 ?_
          refine o_storeN rfl (at_new _ _) sh78 rfl rfl rfl rfl rfl ?_
          refine o_assign rfl ?_
          refine o_nil ?_
          refine k_gen [(7, .box (L + e.length + 1) 0), (9, .box (L + e.length + 3) 0), (10, .bool true)] (X es ++ (e ++ ([.box [.int .i64 off, .int .i64 metal], SB.box [.int .i64 0, .int .i64 0], .box [.int .i64 (-1), .int .i64 31], .box [.int .i64 (cho s w off metal).1, .int .i64 (cho s w off metal).2]] ++ [])))
            (.cons rfl (.cons (by show U.box (X es ++ (e ++ _)).length 0 = _; rw [List.length_append, List.length_append, hL, ← Nat.add_assoc]; rfl) (.cons rfl (.nil rfl)))) (by show ((X es ++ (e ++ _)) ++ [_]).set (X es ++ (e ++ _)).length _ = _; rw [set_end, List.append_assoc, List.append_assoc]; rfl) fun fr => ?_
          refine k_seq (k_region ?_)
          refine o_move rfl ?_
          refine o_nil ?_
          refine k_cond rfl (fun _ => ?_) (fun h => by cases h)
          refine k_seq (k_region ?_)
          refine o_loadN rfl rfl (cs := [.int .i64 (cho s w off metal).1, .int .i64 (cho s w off metal).2]) (by show _[L + e.length + 3]? = _; rw [← hL]; exact at_mid (by simp)) sh78 rfl ?_
          refine o_storeN rfl (by show _[L + e.length + 1]? = _; rw [← hL]; exact at_mid (by simp)) sh78 rfl rfl rfl rfl rfl ?_
          refine o_nil ?_
          refine k_gen [(7, .box (L + e.length + 1) 0)] (X es ++ (e ++ ([.box [.int .i64 off, .int .i64 metal], .box [.int .i64 (cho s w off metal).1, .int .i64 (cho s w off metal).2], .box [.int .i64 (-1), .int .i64 31], .box [.int .i64 (cho s w off metal).1, .int .i64 (cho s w off metal).2]] ++ []))) (.cons rfl (.nil rfl)) (by show (X es ++ (e ++ _)).set (L + e.length + 1) _ = _; rw [← hL, set_mid _ (by simp)]; rfl) fun fr => ?_
          refine k_ret ?_
          refine ⟨fun _ h => (by cases h), ?_⟩
          refine fin82 (off := off) (metal := metal) (l := [.box [.int .i64 off, .int .i64 metal], .box [.int .i64 (cho s w off metal).1, .int .i64 (cho s w off metal).2], .box [.int .i64 (-1), .int .i64 31], .box [.int .i64 (cho s w off metal).1, .int .i64 (cho s w off metal).2]]) (g := []) h hM he ?_ ?_ ?_
          · rfl
          · rfl
          · exact rfl
        | none =>
          refine k_seq (k_region ?_)
          refine o_load1 rfl rfl (at_pre (h.hk es)) sh123 rfl ?_
          refine o_loadN rfl rfl (cs := [.int .i64 off, .int .i64 metal]) (by rw [← hL]; exact at_mid (by simp)) sh80 rfl ?_
          refine o_lookup (kt := 80) (el := 78) (z := spanU 0 0) (r := .tup [spanU 0 0, .bool false]) rfl ty123 rfl (at_pre (h.hm es)) rfl (keyOk hM off metal) zv78 rfl (fun m hm => by cases hm; exact ⟨_, rfl⟩) (by show _ = match getK es (spanU off metal) with | some u => _ | none => _; rw [hg]; rfl) ?_
          refine o_move rfl ?_
          refine o_extract rfl rfl rfl ?_
          refine o_extract rfl rfl rfl ?_
          refine o_alloc rfl ze78 ?_
          refine o_storeN rfl (at_new _ _) sh78 rfl rfl rfl rfl rfl ?_
          refine o_assign rfl ?_
          refine o_nil ?_
          refine k_gen [(1, .box fi 0), (2, .box kn 0), (3, .box c 0), (4, .box ch 0), (5, .box wv 0), (6, .box (L + e.length + 0) 0), (7, .box (L + e.length + 1) 0), (8, .box (L + e.length + 2) 0), (10, .bool false)] (X es ++ (e ++ ([.box [.int .i64 off, .int .i64 metal], SB.box [.int .i64 0, .int .i64 0], .box [.int .i64 (-1), .int .i64 31], SB.box [.int .i64 0, .int .i64 0]] ++ [])))
            (.cons rfl (.cons rfl (.cons rfl (.cons rfl (.cons rfl (.cons rfl (.cons rfl (.cons rfl (.cons rfl (.nil rfl)))))))))) (by show ((X es ++ (e ++ _)) ++ [_]).set (X es ++ (e ++ _)).length _ = _; rw [set_end, List.append_assoc, List.append_assoc]; rfl) fun fr => ?_
          refine k_seq (k_region ?_)
          refine o_move rfl ?_
          refine o_nil ?_
          refine k_cond rfl (fun h => by cases h) (fun _ => ?_)
          refine k_skip ?_
          refine k_seq ?_
          refine k_label ?_
          refine k_seq ?_
          refine k_seq (k_region ?_)
          refine o_faddr rfl rfl fld73_0 ?_
          refine o_faddr rfl rfl fld27_0 ?_
          refine o_load1 rfl rfl (at_pre (h.hc es)) sh22 rfl ?_
          refine o_len rfl ty22 rfl rfl ?_
          refine o_move rfl ?_
          refine o_nil ?_
          refine k_block ?_
          obtain ⟨TK, hTK⟩ : ∃ TK : Nat → Int × Int, TK = takeT s.tools (rec82 s w) w off metal := ⟨_, rfl⟩
          have hTK0 : TK 0 = (-1, 31) := by rw [hTK]; rfl
          have hTKs : ∀ {i : Nat} {t : Tri}, s.tools[i]? = some t → TK (i + 1) = stepT (rec82 s w) w off metal (TK i) i t := fun {i t} ht => by
            rw [hTK]; show (match s.tools[i]? with | some t => stepT (rec82 s w) w off metal _ i t | none => _) = _; rw [ht]
          have ceq' : cho s w off metal = TK s.tools.length := by rw [hTK]; exact ceq
          refine k_loop (fun kk s1 => ∃ (i : Nat) (es : List (U × U)) (g : List SB), kk + i = s.tools.length ∧ Memo s w es ∧ Ext g ∧ s1.st = X es ++ (e ++ ([SB.box [.int .i64 off, .int .i64 metal], SB.box [.int .i64 0, .int .i64 0], SB.box [.int .i64 (TK i).1, .int .i64 (TK i).2], SB.box [.int .i64 0, .int .i64 0]] ++ g)) ∧ Holds s1 [(1, .box fi 0), (2, .box kn 0), (3, .box c 0), (4, .box ch 0), (5, .box wv 0), (6, .box (L + e.length + 0) 0), (7, .box (L + e.length + 1) 0), (8, .box (L + e.length + 2) 0), (38, .int .i64 (trisU s.tools).length), (39, .int .i64 i)]) (fun kk s1 hI => ?_) s.tools.length _ ?_
          · obtain ⟨i, es1, g, hkk, hM1, hg1, hst, hs⟩ := hI
            have hL1 := h.len es1
            refine k_gen _ _ hs hst fun fr => ?_
            refine k_seq (k_region ?_)
            refine o_lss rfl rfl rfl ?_
            refine o_nil ?_
            refine k_seq ?_
            refine k_cond rfl (fun h4 => ?_) (fun h4 => ?_)
            · have hi4 : i < s.tools.length := by
                have := of_decide_eq_true h4
                simp at this; omega
              obtain ⟨t, ht⟩ : ∃ t, s.tools[i]? = some t := ⟨_, List.getElem?_eq_getElem hi4⟩
              have htk := hk.tools t (List.mem_of_getElem? ht)
              refine k_skip ?_
              refine k_seq ?_
              refine k_block ?_
              refine k_seq (k_region ?_)
              refine o_move rfl ?_
              refine o_assign rfl ?_
              refine o_nil ?_
              refine k_seq ?_
              refine k_seq ?_
              refine k_draw [.plain, .plain, .read true, .plain, .plain, .plain, .read true, .plain, .read true, .plain] (by kernel_rfl) (by kernel_rfl) (by kernel_rfl) ?_
              refine d_plain (o_faddr rfl rfl fld73_0 (o_nil rfl)) ?_
              refine d_plain (o_faddr rfl rfl fld27_0 (o_nil rfl)) ?_
              refine d_load rfl (o_load1 rfl rfl (at_pre (h.hc es1)) sh22 rfl (o_nil rfl)) ?_
              refine d_plain (o_move rfl (o_nil rfl)) ?_
              refine d_plain (o_idx (u := t.u) rfl ty22 rfl rfl (Int.natCast_nonneg i) (by simp [ht]) cl52 (o_nil rfl)) ?_
              refine d_plain (o_faddrR rfl rfl fld52_1 (o_nil rfl)) ?_
              refine d_load rfl (o_loadR1 rfl rfl sh3 rfl (o_nil rfl)) ?_
              refine d_plain (o_faddr rfl rfl fld80_1 (o_nil rfl)) ?_
              refine d_load rfl (o_load1 rfl rfl (cs := [.int .i64 off, .int .i64 metal]) (by rw [← hL1]; exact at_mid (by simp)) sh3 rfl (o_nil rfl)) ?_
              refine d_plain (o_gtr rfl rfl rfl (o_nil rfl)) ?_
              refine d_nil ?_
              refine k_cond rfl (fun h5 => ?_) (fun h5 => ?_)
              · refine k_exit ?_
                refine k_region ?_
                refine o_add rfl rfl rfl (by unfold I64; have := hk.nt; omega) ?_
                refine o_move rfl ?_
                refine o_nil ?_
                refine ⟨kk - 1, by omega, i + 1, es1, g, by omega, hM1, hg1, ?_, .cons rfl (.cons rfl (.cons rfl (.cons rfl (.cons rfl (.cons rfl (.cons rfl (.cons rfl (.cons rfl (.cons rfl (.nil rfl))))))))))⟩
                rw [hTKs ht]
                unfold stepT
                rw [if_pos (of_decide_eq_true h5)]
                rfl
              · have hmc : ¬ metal < t.c := of_decide_eq_false h5
                refine k_skip ?_
                refine k_seq (k_region ?_)
                refine o_alloc rfl ze112 ?_
                refine o_nil ?_
                obtain ⟨M, hMd⟩ : ∃ M, M = e ++ ([SB.box [.int .i64 off, .int .i64 metal], SB.box [.int .i64 0, .int .i64 0], SB.box [.int .i64 (TK i).1, .int .i64 (TK i).2], SB.box [.int .i64 0, .int .i64 0]] ++ g) := ⟨_, rfl⟩
                have hMl : M.length = e.length + 4 + g.length := by rw [hMd]; simp; omega
                have hB : Bh L M := by rw [hMd]; exact he.app (Ext.cons (nb_two _ _) (Ext.cons (nb_two _ _) (Ext.cons (nb_two _ _) (Ext.cons (nb_two _ _) hg1))))
                have h6 : ∀ (es : List (U × U)) (r : List SB), (X es ++ (M ++ r))[L + e.length + 0]? = some (.box [.int .i64 off, .int .i64 metal]) := fun es r => by
                  rw [hMd, List.append_assoc e, List.append_assoc [SB.box [.int .i64 off, .int .i64 metal], SB.box [.int .i64 0, .int .i64 0], SB.box [.int .i64 (TK i).1, .int .i64 (TK i).2], SB.box [.int .i64 0, .int .i64 0]], ← h.len es]; exact at_mid (by simp)
                have h8 : ∀ (es : List (U × U)) (r : List SB), (X es ++ (M ++ r))[L + e.length + 2]? = some (.box [.int .i64 (TK i).1, .int .i64 (TK i).2]) := fun es r => by
                  rw [hMd, List.append_assoc e, List.append_assoc [SB.box [.int .i64 off, .int .i64 metal], SB.box [.int .i64 0, .int .i64 0], SB.box [.int .i64 (TK i).1, .int .i64 (TK i).2], SB.box [.int .i64 0, .int .i64 0]], ← h.len es]; exact at_mid (by simp)
                refine k_gen [(1, .box fi 0), (2, .box kn 0), (3, .box c 0), (4, .box ch 0), (5, .box wv 0), (6, .box (L + e.length + 0) 0), (7, .box (L + e.length + 1) 0), (8, .box (L + e.length + 2) 0), (11, .int .i64 i), (12, .box (L + M.length + 0) 0), (38, .int .i64 (trisU s.tools).length), (39, .int .i64 i)] (X es1 ++ (M ++ [.box [.lst .full 0 []]]))
                  (.cons rfl (.cons rfl (.cons rfl (.cons rfl (.cons rfl (.cons rfl (.cons rfl (.cons rfl (.cons rfl (.cons (by show U.box (X es1 ++ (e ++ _)).length 0 = _; rw [hMd, List.length_append, hL1]; rfl) (.cons rfl (.cons rfl (.nil rfl))))))))))))) (by show (X es1 ++ (e ++ _)) ++ [_] = _; rw [hMd, List.append_assoc]; rfl) fun fr => ?_
                refine k_seq ?_
                refine k_seq ?_
                refine k_draw [.read true, .plain, .plain, .read true, .plain, .plain, .read true, .plain] (by kernel_rfl) (by kernel_rfl) (by kernel_rfl) ?_
                refine d_load rfl (o_loadN rfl rfl (h6 _ _) sh80 rfl (o_nil rfl)) ?_
                refine d_plain (o_faddr rfl rfl fld73_0 (o_nil rfl)) ?_
                refine d_plain (o_faddr rfl rfl fld27_0 (o_nil rfl)) ?_
                refine d_load rfl (o_load1 rfl rfl (at_pre (h.hc es1)) sh22 rfl (o_nil rfl)) ?_
                refine d_plain (o_move rfl (o_nil rfl)) ?_
                refine d_plain (o_idx (u := t.u) rfl ty22 rfl rfl (Int.natCast_nonneg i) (by simp [ht]) cl52 (o_nil rfl)) ?_
                refine d_load rfl (o_loadRN rfl rfl sh52 rfl (o_nil rfl)) ?_
                refine d_plain (o_callW rfl (wpc83 off metal t _) (.lrefl _) (fun u st1 hM2 => by obtain ⟨rfl, rfl⟩ := hM2; exact o_nil rfl)) ?_
                refine d_nil ?_
                refine k_block ?_
                obtain ⟨W3, hW3⟩ : ∃ W3, W3 = X es1 ++ (M ++ [SB.box [.lst .full 0 []], .box [.int .i64 off, .int .i64 metal], .box [.int .i64 t.a, .int .i64 t.b, .int .i64 t.c]]) := ⟨_, rfl⟩
                have hW3' : W3 = X es1 ++ (M ++ [SB.box [accI (hitL (rec82 s w) off metal t 0)], .box [.int .i64 off, .int .i64 metal], .box [.int .i64 t.a, .int .i64 t.b, .int .i64 t.c]]) := hW3
                have hWl : W3.length = L + M.length + 3 := by rw [hW3]; simp [hL1]; omega
                refine k_forget [(1, .box fi 0), (2, .box kn 0), (3, .box c 0), (4, .box ch 0), (5, .box wv 0), (6, .box (L + e.length + 0) 0), (7, .box (L + e.length + 1) 0), (8, .box (L + e.length + 2) 0), (11, .int .i64 i), (12, .box (L + M.length + 0) 0), (38, .int .i64 (trisU s.tools).length), (39, .int .i64 i), (59, .fn 85 [] [.box (L + M.length + 0 + 2) 0, .box (L + M.length + 0 + 1) 0])] W3
                  (.cons rfl (.cons rfl (.cons rfl (.cons rfl (.cons rfl (.cons rfl (.cons rfl (.cons rfl (.cons rfl (.cons rfl (.cons rfl (.cons rfl (.cons (by show U.fn 85 [] [.box ((X es1 ++ (M ++ [_])).length + 1) 0, .box (X es1 ++ (M ++ [_])).length 0] = _; rw [List.length_append, List.length_append, hL1]; rfl) (.nil rfl)))))))))))))) (by show (X es1 ++ (M ++ [_])) ++ [_, _] = _; rw [hW3, List.append_assoc, List.append_assoc]; rfl) ?_
                refine k_range (g := 85) rfl ?_
                show WpC Try.prog is orc 85 [.yld W3.length, .box (L + M.length + 0 + 2) 0, .box (L + M.length + 0 + 1) 0] (W3 ++ [.loop .ready (lp82 fi kn c ch wv (L + e.length + 0) (L + e.length + 1) (L + e.length + 2) (L + M.length + 0) i (trisU s.tools).length)]) (fun _ st' => ∃ q, st'[W3.length]? = some (.loop q (lp82 fi kn c ch wv (L + e.length + 0) (L + e.length + 1) (L + e.length + 2) (L + M.length + 0) i (trisU s.tools).length)) ∧ (∀ y ∈ st'.take W3.length, BdS W3.length y) ∧ endQ _ q ⟨_, [], st'.take W3.length⟩)
                obtain ⟨q1, q2, q3, q4, q5⟩ := h.lts
                have hlpB : ∀ k, Bd (L + M.length + 4) ((lp82 fi kn c ch wv (L + e.length + 0) (L + e.length + 1) (L + e.length + 2) (L + M.length + 0) i (trisU s.tools).length).fr k) := lp82_bd (by omega)
                generalize hlpd : lp82 fi kn c ch wv (L + e.length + 0) (L + e.length + 1) (L + e.length + 2) (L + M.length + 0) i (trisU s.tools).length = lp at hlpB
                have hW4 : W3 ++ [.loop .ready lp] = R82 s w off metal t X M (.loop .ready lp) 0 es1 [] := by unfold R82; rw [hW3', List.append_assoc, List.append_assoc]; rfl
                rw [hWl, hW4]
                have hwid : ((widM t : Nat) : Int) = t.b - t.a + 1 := by unfold widM; omega
                have hob : -60 ≤ off ∧ off ≤ 60 := by
                  have := hof; unfold offB at this
                  simpa only [Bool.and_eq_true, decide_eq_true_eq] using this
                refine WpC.mono (wpc85 (N := L + M.length + 4) (lp := lp) (t := t) (off := off) (metal := metal) (n := widM t) ⟨htk.1, htk.2.1, htk.2.2.1⟩ (by omega) hob (by omega) hwid (I := I82 s w off metal t X M lp) (F := F82 s w off metal t X M lp) ?_ ?_ ?_ ?_ ?_ _ ?_) ?_
                · rintro j Y ⟨es2, hM2, _, rfl⟩
                  have hL2 := h.len es2
                  refine ⟨by unfold R82; simp [hL2]; omega, ?_, ?_, ?_, R82_at hL2 (by omega)⟩
                  · have e9 : R82 s w off metal t X M (.loop .ready lp) j es2 [] = (X es2 ++ (M ++ [SB.box [accI (hitL (rec82 s w) off metal t j)], .box [.int .i64 off, .int .i64 metal], .box [.int .i64 t.a, .int .i64 t.b, .int .i64 t.c]])) ++ [.loop .ready lp] := by
                      unfold R82; rw [List.append_assoc, List.append_assoc]; rfl
                    rw [e9]
                    intro x hx
                    rcases List.mem_append.1 hx with hx | hx
                    · exact BdS.mono (R82_bd h hB hM2 x hx) (by omega)
                    · rcases List.mem_singleton.1 hx with rfl; exact hlpB
                  · exact R82_at hL2 (i := 2) (by omega)
                  · exact R82_at hL2 (i := 1) (by omega)
                · rintro Y ⟨es2, j, hM2, _, _, _, rfl⟩
                  have hL2 := h.len es2
                  refine ⟨by unfold R82; simp [hL2]; omega, ?_⟩
                  have e9 : R82 s w off metal t X M (.loop (.done (.exit 1)) lp) j es2 [] = (X es2 ++ (M ++ [SB.box [accI (hitL (rec82 s w) off metal t j)], .box [.int .i64 off, .int .i64 metal], .box [.int .i64 t.a, .int .i64 t.b, .int .i64 t.c]])) ++ [.loop (.done (.exit 1)) lp] := by
                    unfold R82; rw [List.append_assoc, List.append_assoc]; rfl
                  rw [e9]
                  intro x hx
                  rcases List.mem_append.1 hx with hx | hx
                  · exact BdS.mono (R82_bd h hB hM2 x hx) (by omega)
                  · rcases List.mem_singleton.1 hx with rfl; exact hlpB
                · intro k; rw [← hlpd]; exact dg_noOwn _
                · rw [← hlpd]; rfl
                · intro j Y e2 hj hY he2
                  subst hlpd
                  exact yield82 hi h hB (fun o es3 E hM3 hE3 => ih (metal - t.c) o (by omega) (by omega) (by omega) es3 E hM3 hE3) hlpB j Y e2 hj (by omega) hY he2
                · exact ⟨es1, hM1, fun _ x hx => (by cases hx), rfl⟩
                · rintro u st' (⟨es2, hM2, hne, rfl⟩ | ⟨es2, j, hM2, hw, hj, h31, rfl⟩)
                  · have hL2 := h.len es2
                    refine ⟨.ready, R82_at hL2 (by omega), ?_, ?_⟩
                    · rw [R82_take hL2]; exact R82_bd h hB hM2
                    · rw [R82_take hL2]
                      have hcb : 0 ≤ cntL w (hitL (rec82 s w) off metal t (widM t)) ∧ cntL w (hitL (rec82 s w) off metal t (widM t)) ≤ 31 := cnt_b fun x hx => by
                        obtain ⟨k, _, rfl⟩ := List.mem_map.1 hx
                        have := cho_b s w (off + (t.a + k)) (metal - t.c)
                        exact ⟨this.1, this.2.1⟩
                      have hnany : ¬ (w && (hitL (rec82 s w) off metal t (widM t)).any (fun x => decide (x = 31))) = true := by
                        intro hx
                        rw [Bool.and_eq_true, List.any_eq_true] at hx
                        obtain ⟨hw, x, hx, h31⟩ := hx
                        exact hne hw x hx (of_decide_eq_true h31)
                      have hTKn : TK (i + 1) = if (cntL w (hitL (rec82 s w) off metal t (widM t)) + 1) < (TK i).2 then ((i : Int), (cntL w (hitL (rec82 s w) off metal t (widM t)) + 1)) else TK i := by
                        rw [hTKs ht]; unfold stepT; rw [if_neg hmc, if_neg hnany]
                      have hhl : (hitL (rec82 s w) off metal t (widM t)).length = widM t := by unfold hitL; simp
                      obtain ⟨x0, l0, hx0⟩ : ∃ x0 l0, hitL (rec82 s w) off metal t (widM t) = x0 :: l0 := by
                        cases hq : hitL (rec82 s w) off metal t (widM t) with
                        | nil => rw [hq] at hhl; simp at hhl; omega
                        | cons x l => exact ⟨x, l, rfl⟩
                      have hw12 : (X es2 ++ (M ++ ([SB.box [accI (hitL (rec82 s w) off metal t (widM t))], .box [.int .i64 off, .int .i64 metal], .box [.int .i64 t.a, .int .i64 t.b, .int .i64 t.c]] ++ [])))[L + M.length + 0]? = some (SB.box [.lst .own 1 (intsU (hitL (rec82 s w) off metal t (widM t)))]) := by
                        rw [← hL2, at_mid (by simp), hx0]; rfl
                      refine k_gen [(1, .box fi 0), (2, .box kn 0), (3, .box c 0), (4, .box ch 0), (5, .box wv 0), (6, .box (L + e.length + 0) 0), (7, .box (L + e.length + 1) 0), (8, .box (L + e.length + 2) 0), (38, .int .i64 (trisU s.tools).length), (39, .int .i64 i), (11, .int .i64 i), (12, .box (L + M.length + 0) 0)] (X es2 ++ (M ++ ([SB.box [accI (hitL (rec82 s w) off metal t (widM t))], .box [.int .i64 off, .int .i64 metal], .box [.int .i64 t.a, .int .i64 t.b, .int .i64 t.c]] ++ []))) (.cons rfl (.cons rfl (.cons rfl (.cons rfl (.cons rfl (.cons rfl (.cons rfl (.cons rfl (.cons rfl (.cons rfl (.cons rfl (.cons rfl (.nil rfl))))))))))))) rfl fun fr => ?_
                      refine k_seq (k_region ?_)
                      refine o_move rfl ?_
                      refine o_faddr rfl rfl fld117_0 ?_
                      refine o_load1 rfl rfl (at_pre (h.hw es2)) sh114 rfl ?_
                      refine o_load1 rfl rfl hw12 sh112 rfl ?_
                      refine o_callV (g := cntF w) rfl rfl (wpc_cnt hi w (hitL (rec82 s w) off metal t (widM t)) (by rw [hhl]; omega) _) (.lrefl _) (fun u st1 hM4 => ?_)
                      obtain ⟨rfl, rfl⟩ := hM4
                      refine o_add rfl rfl rfl (by unfold I64; omega) ?_
                      refine o_build (cs := [.int .i64 i, .int .i64 (cntL w (hitL (rec82 s w) off metal t (widM t)) + 1)]) rfl ze78 pl78 rfl rfl ?_
                      refine o_alloc rfl ze78 ?_
                      refine o_storeN rfl (at_new _ _) sh78 rfl rfl rfl rfl rfl ?_
                      refine o_nil ?_
                      have h15 : ∀ r, (X es2 ++ (M ++ ([SB.box [accI (hitL (rec82 s w) off metal t (widM t))], .box [.int .i64 off, .int .i64 metal], .box [.int .i64 t.a, .int .i64 t.b, .int .i64 t.c], .box [.int .i64 i, .int .i64 (cntL w (hitL (rec82 s w) off metal t (widM t)) + 1)]] ++ r)))[L + M.length + 3]? = some (.box [.int .i64 i, .int .i64 (cntL w (hitL (rec82 s w) off metal t (widM t)) + 1)]) := fun r => by
                        rw [← hL2, at_mid (by simp)]; rfl
                      refine k_gen [(1, .box fi 0), (2, .box kn 0), (3, .box c 0), (4, .box ch 0), (5, .box wv 0), (6, .box (L + e.length + 0) 0), (7, .box (L + e.length + 1) 0), (8, .box (L + e.length + 2) 0), (38, .int .i64 (trisU s.tools).length), (39, .int .i64 i), (15, .box (L + M.length + 3) 0)] (X es2 ++ (M ++ ([SB.box [accI (hitL (rec82 s w) off metal t (widM t))], .box [.int .i64 off, .int .i64 metal], .box [.int .i64 t.a, .int .i64 t.b, .int .i64 t.c], .box [.int .i64 i, .int .i64 (cntL w (hitL (rec82 s w) off metal t (widM t)) + 1)]] ++ []))) (.cons rfl (.cons rfl (.cons rfl (.cons rfl (.cons rfl (.cons rfl (.cons rfl (.cons rfl (.cons rfl (.cons rfl (.cons (by show U.box (X es2 ++ (M ++ _)).length 0 = _; rw [List.length_append, List.length_append, hL2, ← Nat.add_assoc]; rfl) (.nil rfl)))))))))))) (by show ((X es2 ++ (M ++ _)) ++ [_]).set (X es2 ++ (M ++ _)).length _ = _; rw [set_end, List.append_assoc, List.append_assoc]; rfl) fun fr => ?_
                      refine k_seq (k_region ?_)
                      refine o_faddr rfl rfl fld117_2 ?_
                      refine o_load1 rfl rfl (at_pre (h.hw es2)) sh115 rfl ?_
                      refine o_loadN rfl rfl (h15 _) sh78 rfl ?_
                      refine o_loadN rfl rfl (h8 _ _) sh78 rfl ?_
                      refine o_callV (g := 80) rfl rfl (wpc_ret (ret80 hi i (cntL w (hitL (rec82 s w) off metal t (widM t)) + 1) (TK i).1 (TK i).2)) (.lrefl _) (fun u st1 hM4 => ?_)
                      obtain ⟨rfl, rfl⟩ := hM4
                      refine o_nil ?_
                      refine k_cond rfl (fun h8c => ?_) (fun h8c => ?_)
                      · refine k_region ?_
                        refine o_loadN rfl rfl (h15 _) sh78 rfl ?_
                        refine o_storeN rfl (h8 _ _) sh78 rfl rfl rfl rfl rfl ?_
                        refine o_nil ?_
                        refine k_gen [(1, .box fi 0), (2, .box kn 0), (3, .box c 0), (4, .box ch 0), (5, .box wv 0), (6, .box (L + e.length + 0) 0), (7, .box (L + e.length + 1) 0), (8, .box (L + e.length + 2) 0), (38, .int .i64 (trisU s.tools).length), (39, .int .i64 i)] (X es2 ++ (e ++ ([SB.box [.int .i64 off, .int .i64 metal], SB.box [.int .i64 0, .int .i64 0], SB.box [.int .i64 i, .int .i64 (cntL w (hitL (rec82 s w) off metal t (widM t)) + 1)], SB.box [.int .i64 0, .int .i64 0]] ++ (g ++ [SB.box [accI (hitL (rec82 s w) off metal t (widM t))], .box [.int .i64 off, .int .i64 metal], .box [.int .i64 t.a, .int .i64 t.b, .int .i64 t.c], .box [.int .i64 i, .int .i64 (cntL w (hitL (rec82 s w) off metal t (widM t)) + 1)]])))) (.cons rfl (.cons rfl (.cons rfl (.cons rfl (.cons rfl (.cons rfl (.cons rfl (.cons rfl (.cons rfl (.cons rfl (.nil rfl))))))))))) (by
                          show (X es2 ++ (M ++ _)).set (L + e.length + 2) _ = _
                          rw [hMd, List.append_assoc e, List.append_assoc [_, _, _, _], ← hL2, set_mid _ (by simp), List.append_nil]; rfl) fun fr => ?_
                        refine k_region ?_
                        refine o_add rfl rfl rfl (by unfold I64; have := hk.nt; omega) ?_
                        refine o_move rfl ?_
                        refine o_nil ?_
                        refine ⟨kk - 1, by omega, i + 1, es2, g ++ [SB.box [accI (hitL (rec82 s w) off metal t (widM t))], .box [.int .i64 off, .int .i64 metal], .box [.int .i64 t.a, .int .i64 t.b, .int .i64 t.c], .box [.int .i64 i, .int .i64 (cntL w (hitL (rec82 s w) off metal t (widM t)) + 1)]], by omega, hM2, hg1.app (Ext.cons (nb_one (nb_acc _)) (Ext.cons (nb_two _ _) (Ext.cons (nb_three _ _ _) (Ext.cons (nb_two _ _) .nil)))), ?_, .cons rfl (.cons rfl (.cons rfl (.cons rfl (.cons rfl (.cons rfl (.cons rfl (.cons rfl (.cons rfl (.cons rfl (.nil rfl))))))))))⟩
                        rw [hTKn, if_pos (of_decide_eq_true h8c)]
                        rfl
                      · refine k_skip ?_
                        refine k_gen [(1, .box fi 0), (2, .box kn 0), (3, .box c 0), (4, .box ch 0), (5, .box wv 0), (6, .box (L + e.length + 0) 0), (7, .box (L + e.length + 1) 0), (8, .box (L + e.length + 2) 0), (38, .int .i64 (trisU s.tools).length), (39, .int .i64 i)] (X es2 ++ (e ++ ([SB.box [.int .i64 off, .int .i64 metal], SB.box [.int .i64 0, .int .i64 0], SB.box [.int .i64 (TK i).1, .int .i64 (TK i).2], SB.box [.int .i64 0, .int .i64 0]] ++ (g ++ [SB.box [accI (hitL (rec82 s w) off metal t (widM t))], .box [.int .i64 off, .int .i64 metal], .box [.int .i64 t.a, .int .i64 t.b, .int .i64 t.c], .box [.int .i64 i, .int .i64 (cntL w (hitL (rec82 s w) off metal t (widM t)) + 1)]])))) (.cons rfl (.cons rfl (.cons rfl (.cons rfl (.cons rfl (.cons rfl (.cons rfl (.cons rfl (.cons rfl (.cons rfl (.nil rfl))))))))))) (by
                          show (X es2 ++ (M ++ _)) = _
                          rw [hMd, List.append_assoc e, List.append_assoc [_, _, _, _], List.append_nil]) fun fr => ?_
                        refine k_region ?_
                        refine o_add rfl rfl rfl (by unfold I64; have := hk.nt; omega) ?_
                        refine o_move rfl ?_
                        refine o_nil ?_
                        refine ⟨kk - 1, by omega, i + 1, es2, g ++ [SB.box [accI (hitL (rec82 s w) off metal t (widM t))], .box [.int .i64 off, .int .i64 metal], .box [.int .i64 t.a, .int .i64 t.b, .int .i64 t.c], .box [.int .i64 i, .int .i64 (cntL w (hitL (rec82 s w) off metal t (widM t)) + 1)]], by omega, hM2, hg1.app (Ext.cons (nb_one (nb_acc _)) (Ext.cons (nb_two _ _) (Ext.cons (nb_three _ _ _) (Ext.cons (nb_two _ _) .nil)))), ?_, .cons rfl (.cons rfl (.cons rfl (.cons rfl (.cons rfl (.cons rfl (.cons rfl (.cons rfl (.cons rfl (.cons rfl (.nil rfl))))))))))⟩
                        rw [hTKn, if_neg (of_decide_eq_false h8c)]
                        rfl
                  · have hL2 := h.len es2
                    refine ⟨.done (.exit 1), R82_at hL2 (by omega), ?_, ?_⟩
                    · rw [R82_take hL2]; exact R82_bd h hB hM2
                    · rw [R82_take hL2]
                      refine k_gen [(1, .box fi 0), (2, .box kn 0), (3, .box c 0), (4, .box ch 0), (5, .box wv 0), (6, .box (L + e.length + 0) 0), (7, .box (L + e.length + 1) 0), (8, .box (L + e.length + 2) 0), (38, .int .i64 (trisU s.tools).length), (39, .int .i64 i)] (X es2 ++ (e ++ ([SB.box [.int .i64 off, .int .i64 metal], SB.box [.int .i64 0, .int .i64 0], SB.box [.int .i64 (TK i).1, .int .i64 (TK i).2], SB.box [.int .i64 0, .int .i64 0]] ++ (g ++ [SB.box [accI (hitL (rec82 s w) off metal t j)], .box [.int .i64 off, .int .i64 metal], .box [.int .i64 t.a, .int .i64 t.b, .int .i64 t.c]])))) (.cons rfl (.cons rfl (.cons rfl (.cons rfl (.cons rfl (.cons rfl (.cons rfl (.cons rfl (.cons rfl (.cons rfl (.nil rfl))))))))))) (by show X es2 ++ (M ++ _) = _; rw [hMd]; simp only [List.append_assoc]) fun fr => ?_
                      refine k_region ?_
                      refine o_add rfl rfl rfl (by unfold I64; have := hk.nt; omega) ?_
                      refine o_move rfl ?_
                      refine o_nil ?_
                      refine ⟨kk - 1, by omega, i + 1, es2, g ++ [SB.box [accI (hitL (rec82 s w) off metal t j)], .box [.int .i64 off, .int .i64 metal], .box [.int .i64 t.a, .int .i64 t.b, .int .i64 t.c]], by omega, hM2, hg1.app (Ext.cons (nb_one (nb_acc _)) (Ext.cons (nb_two _ _) (Ext.cons (nb_three _ _ _) .nil))), ?_, .cons rfl (.cons rfl (.cons rfl (.cons rfl (.cons rfl (.cons rfl (.cons rfl (.cons rfl (.cons rfl (.cons rfl (.nil rfl))))))))))⟩
                      rw [hTKs ht]
                      unfold stepT
                      have hany : (w && (hitL (rec82 s w) off metal t (widM t)).any (fun x => decide (x = 31))) = true := by
                        rw [Bool.and_eq_true, List.any_eq_true]
                        refine ⟨hw, 31, ?_, by simp⟩
                        unfold hitL
                        exact List.mem_map.2 ⟨j, List.mem_range.2 hj, h31⟩
                      rw [if_neg hmc, if_pos hany]
                      rfl
            · have hic : i = s.tools.length := by
                have := of_decide_eq_false h4
                simp at this; omega
              have hT : TK i = cho s w off metal := by rw [hic, ceq']
              rw [hT]
              have hM5 := hM1.put off metal
              refine k_exit ?_
              refine k_seq (k_region ?_)
              refine o_load1 rfl rfl (at_pre (h.hk es1)) sh123 rfl ?_
              refine o_loadN rfl rfl (cs := [.int .i64 off, .int .i64 metal]) (by rw [← hL1]; exact at_mid (by simp)) sh80 rfl ?_
              refine o_loadN rfl rfl (cs := [.int .i64 (cho s w off metal).1, .int .i64 (cho s w off metal).2]) (by show _[L + e.length + 2]? = _; rw [← hL1]; exact at_mid (by simp)) sh78 rfl ?_
              refine o_mapUpdate (kt := 80) (el := 78) (ps := es1) (key := spanU off metal) rfl ty123 rfl (at_pre (h.hm es1)) rfl (keyOk hM1 off metal) ?_
              refine o_nil ?_
              refine k_gen [(7, .box (L + e.length + 1) 0), (8, .box (L + e.length + 2) 0)] (X (setK es1 (spanU off metal) (spanU (cho s w off metal).1 (cho s w off metal).2)) ++ (e ++ ([SB.box [.int .i64 off, .int .i64 metal], SB.box [.int .i64 0, .int .i64 0], SB.box [.int .i64 (cho s w off metal).1, .int .i64 (cho s w off metal).2], SB.box [.int .i64 0, .int .i64 0]] ++ g))) (.cons rfl (.cons rfl (.nil rfl))) (by
                show (X es1 ++ (e ++ _)).set mp (.map (setK es1 (spanU off metal) (spanU (cho s w off metal).1 (cho s w off metal).2))) = _
                rw [List.set_append_left _ _ (by rw [hL1]; exact h.ml), h.hs]) fun fr => ?_
              have hL5 := h.len (setK es1 (spanU off metal) (spanU (cho s w off metal).1 (cho s w off metal).2))
              refine k_seq (k_region ?_)
              refine o_loadN rfl rfl (cs := [.int .i64 (cho s w off metal).1, .int .i64 (cho s w off metal).2]) (by show _[L + e.length + 2]? = _; rw [← hL5]; exact at_mid (by simp)) sh78 rfl ?_
              refine o_storeN rfl (by show _[L + e.length + 1]? = _; rw [← hL5]; exact at_mid (by simp)) sh78 rfl rfl rfl rfl rfl ?_
              refine o_nil ?_
              refine k_gen [(7, .box (L + e.length + 1) 0)] (X (setK es1 (spanU off metal) (spanU (cho s w off metal).1 (cho s w off metal).2)) ++ (e ++ ([SB.box [.int .i64 off, .int .i64 metal], SB.box [.int .i64 (cho s w off metal).1, .int .i64 (cho s w off metal).2], SB.box [.int .i64 (cho s w off metal).1, .int .i64 (cho s w off metal).2], SB.box [.int .i64 0, .int .i64 0]] ++ g))) (.cons rfl (.nil rfl)) (by show (X _ ++ (e ++ _)).set (L + e.length + 1) _ = _; rw [← hL5, set_mid _ (by simp)]; rfl) fun fr => ?_
              refine k_ret ?_
              refine ⟨fun _ h => (by cases h), ?_⟩
              refine fin82 (off := off) (metal := metal) (l := [SB.box [.int .i64 off, .int .i64 metal], SB.box [.int .i64 (cho s w off metal).1, .int .i64 (cho s w off metal).2], SB.box [.int .i64 (cho s w off metal).1, .int .i64 (cho s w off metal).2], SB.box [.int .i64 0, .int .i64 0]]) (g := g) h hM5 he ?_ ?_ ?_
              · rfl
              · rfl
              · rfl
          · exact ⟨0, es, [], by omega, hM, .nil, by rw [hTK0]; rfl, .cons rfl (.cons rfl (.cons rfl (.cons rfl (.cons rfl (.cons rfl (.cons rfl (.cons rfl (.cons rfl (.cons rfl (.nil rfl))))))))))⟩
theorem cl117 : Program.cellsOf Try.prog 117 = 3 := by kernel_rfl
theorem fld73_1 : fieldOf Try.prog 73 1 = some (4, 71) := by kernel_rfl
theorem fld73_2 : fieldOf Try.prog 73 2 = some (5, 71) := by kernel_rfl
theorem pl117 : plcOf Try.prog 117 = some [(0, 1), (1, 1), (2, 1)] := by kernel_rfl
theorem pl118 : plcOf Try.prog 118 = some [(0, 3), (3, 3)] := by kernel_rfl
theorem pl73 : plcOf Try.prog 73 = some [(0, 4), (4, 1), (5, 1)] := by kernel_rfl
theorem sh117 : shOf Try.prog 117 = .many 3 := by kernel_rfl
theorem sh118 : shOf Try.prog 118 = .many 6 := by kernel_rfl
theorem sh27 : shOf Try.prog 27 = .many 4 := by kernel_rfl
theorem sh73 : shOf Try.prog 73 = .many 6 := by kernel_rfl
theorem ty118 : tyOf Try.prog 118 = .array 2 117 := by kernel_rfl
theorem ze117 : zeroL Try.prog 117 = some ((.cons .nilf (.cons (.bool false) (.cons .nilf .nil))) : V) := by kernel_rfl
theorem ze118 : zeroL Try.prog 118 = some ((.cons .nilf (.cons (.bool false) (.cons .nilf (.cons .nilf (.cons (.bool false) (.cons .nilf .nil)))))) : V) := by kernel_rfl
theorem ze123 : zeroL Try.prog 123 = some ((.cons .nilm .nil) : V) := by kernel_rfl
theorem ze71 : zeroL Try.prog 71 = some ((.cons .nilf .nil) : V) := by kernel_rfl
theorem ze73 : zeroL Try.prog 73 = some ((.cons .nils (.cons (.int .i64 0) (.cons (.int .i64 0) (.cons .nils (.cons .nilf (.cons .nilf .nil)))))) : V) := by kernel_rfl
theorem ze76 : zeroL Try.prog 76 = some ((.cons .nilf .nil) : V) := by kernel_rfl
theorem set_endk {l : List SB} {k : Nat} (h : l.length = k) (x y : SB) : (l ++ [x]).set k y = l ++ [y] := by rw [← h, set_end]
abbrev wayC (w : Bool) : List U := [.fn (cntF w) [] [], .bool w, .fn 80 [] []]
abbrev fn82 (n : Nat) : U := .fn 82 [] [.box (n + 4) 0, .box (n + 3) 0, .box n 0, .box (n + 5) 0, .box (n + 1) 0]
abbrev six (s : Shop) (w : Bool) (n : Nat) (es : List (U × U)) : List SB := [.box s.cs6, .box (wayC w), .map es, .box [.mp (n + 2)], .box [.fn 75 [.agg s.cs6] []], .box [fn82 n]]
theorem nb_way (w : Bool) : ∀ c ∈ wayC w, NB c := by
  intro c hc
  simp only [List.mem_cons, List.not_mem_nil, or_false] at hc
  rcases hc with rfl | rfl | rfl
  · exact NB.fn (fun u h => by cases h) (fun u h => by cases h)
  · exact NB.bool _
  · exact NB.fn (fun u h => by cases h) (fun u h => by cases h)
noncomputable def b77 : Code := (Try.f77.body).getD .skip
theorem body77 : bodyOf Try.prog 77 = some (13, b77, [.tmp 4]) := by kernel_rfl
theorem pure77 : pureFn Try.prog 77 = false := by kernel_rfl
set_option maxHeartbeats 4000000 in
theorem wpc77 (s : Shop) (w : Bool) (st : List SB) : WpC Try.prog is orc 77 [.agg s.cs6, .agg (wayC w)] st fun u st' => u = fn82 st.length ∧ st' = st ++ six s w st.length [] := by
  obtain ⟨n, hn⟩ : ∃ n, st.length = n := ⟨_, rfl⟩
  rw [hn]
  refine wpc_of body77 pure77 rfl rfl ?_
  refine k_seq (k_region ?_)
  refine o_box rfl rfl ?_
  refine o_box rfl rfl ?_
  refine o_assign rfl ?_
  refine o_nil ?_
  refine k_gen [(2, .box n 0), (3, .box (n + 1) 0)] (st ++ [.box s.cs6, .box (wayC w)]) (.cons (by show U.box st.length 0 = _; rw [hn]) (.cons (by show U.box (st ++ [_]).length 0 = _; rw [List.length_append, hn]; rfl) (.nil rfl))) (by show (st ++ [_]) ++ [_] = _; rw [List.append_assoc]; rfl) fun fr => ?_
  refine k_seq (k_region ?_)
  refine o_makeMap rfl ty123 ?_
  refine o_alloc rfl ze123 ?_
  refine o_store1 rfl (at_new _ _) sh123 rfl rfl ?_
  refine o_nil ?_
  refine k_gen [(2, .box n 0), (3, .box (n + 1) 0), (5, .box (n + 3) 0)] (st ++ [.box s.cs6, .box (wayC w), .map [], .box [.mp (n + 2)]]) (.cons rfl (.cons rfl (.cons (by show U.box ((st ++ [_, _]) ++ [_]).length 0 = _; rw [List.length_append, List.length_append, hn]; rfl) (.nil rfl)))) (by
    show (((st ++ [_, _]) ++ [_]) ++ [_]).set ((st ++ [_, _]) ++ [_]).length (.box [U.mp (st ++ [_, _]).length]) = _
    rw [set_end, List.length_append, hn, List.append_assoc, List.append_assoc]; rfl) fun fr => ?_
  refine k_seq (k_region ?_)
  refine o_loadN rfl rfl (cs := s.cs6) (by show (st ++ _)[n]? = _; rw [← hn, List.getElem?_append_right (Nat.le_refl _), Nat.sub_self]; rfl) sh73 rfl ?_
  refine o_func rfl ?_
  refine o_alloc rfl ze76 ?_
  refine o_store1 rfl (at_new _ _) sh76 rfl rfl ?_
  refine o_nil ?_
  refine k_gen [(2, .box n 0), (3, .box (n + 1) 0), (5, .box (n + 3) 0), (6, .box (n + 4) 0)] (st ++ [.box s.cs6, .box (wayC w), .map [], .box [.mp (n + 2)], .box [.fn 75 [.agg s.cs6] []]]) (.cons rfl (.cons rfl (.cons rfl (.cons (by show U.box (st ++ [_, _, _, _]).length 0 = _; rw [List.length_append, hn]; rfl) (.nil rfl))))) (by
    show ((st ++ [_, _, _, _]) ++ [_]).set (st ++ [_, _, _, _]).length _ = _
    rw [set_end, List.append_assoc]; rfl) fun fr => ?_
  refine k_seq (k_region ?_)
  refine o_alloc rfl ze71 ?_
  refine o_nil ?_
  refine k_gen [(2, .box n 0), (3, .box (n + 1) 0), (5, .box (n + 3) 0), (6, .box (n + 4) 0), (7, .box (n + 5) 0)] ((st ++ [.box s.cs6, .box (wayC w), .map [], .box [.mp (n + 2)], .box [.fn 75 [.agg s.cs6] []]]) ++ [.box [.nilf]]) (.cons rfl (.cons rfl (.cons rfl (.cons rfl (.cons (by show U.box (st ++ [_, _, _, _, _]).length 0 = _; rw [List.length_append, hn]; rfl) (.nil rfl)))))) rfl fun fr => ?_
  have hl5 : ∀ a b c d e : SB, (st ++ [a, b, c, d, e]).length = n + 5 := fun a b c d e => by rw [List.length_append, hn]; rfl
  refine k_seq (k_region ?_)
  refine o_func rfl ?_
  refine o_store1 rfl (by show ((st ++ [_, _, _, _, _]) ++ [_])[n + 5]? = _; rw [← hl5]; exact at_new _ _) sh71 rfl rfl ?_
  refine o_nil ?_
  refine k_gen [(7, .box (n + 5) 0)] (st ++ six s w n []) (.cons rfl (.nil rfl)) (by
    show ((st ++ [_, _, _, _, _]) ++ [_]).set (n + 5) _ = _
    rw [set_endk (hl5 _ _ _ _ _), List.append_assoc]; rfl) fun fr => ?_
  refine k_seq (k_region ?_)
  refine o_load1 rfl rfl (cs := [fn82 n]) (by show (st ++ _)[n + 5]? = _; rw [← hn, List.getElem?_append_right (by omega), Nat.add_sub_cancel_left]; rfl) sh71 rfl ?_
  refine o_assign rfl ?_
  refine o_nil ?_
  refine k_ret ?_
  refine ⟨.inr rfl, _, .cons _ _ _ _ (.tmp 4) .nil, ?_⟩
  exact ⟨_, .refl _, rfl, rfl⟩
abbrev waysC : List U := [.fn 74 [] [], .bool true, .fn 80 [] [], .fn 81 [] [], .bool false, .fn 80 [] []]
theorem nb_ways : ∀ c ∈ waysC, NB c := by
  intro c hc
  simp only [List.mem_cons, List.not_mem_nil, or_false] at hc
  rcases hc with rfl | rfl | rfl | rfl | rfl | rfl <;> first | exact NB.bool _ | exact NB.fn (fun u h => by cases h) (fun u h => by cases h)
noncomputable def b76 : Code := (Try.f76.body).getD .skip
theorem body76 : bodyOf Try.prog 76 = some (4, b76, [.cell 0 118]) := by kernel_rfl
theorem pure76 : pureFn Try.prog 76 = false := by kernel_rfl
set_option maxHeartbeats 4000000 in
theorem ret76 : RetP Try.prog is orc 76 [] (.agg waysC) := by
  refine ret_of_shared body76 pure76 rfl rfl (fun u hu => by cases hu) (NB.agg nb_ways) ?_
  refine k_seq (k_region ?_)
  refine o_alloc rfl ze118 ?_
  refine o_nil ?_
  refine k_seq (k_region ?_)
  refine o_build (cs := [.fn 74 [] [], .bool true, .fn 80 [] []]) rfl ze117 pl117 rfl rfl ?_
  refine o_build (cs := [.fn 81 [] [], .bool false, .fn 80 [] []]) rfl ze117 pl117 rfl rfl ?_
  refine o_build (cs := waysC) rfl ze118 pl118 rfl rfl ?_
  refine o_storeN rfl rfl sh118 rfl rfl rfl rfl rfl ?_
  refine o_nil ?_
  refine k_ret ?_
  refine ⟨.inr rfl, _, .cons _ _ _ _ (.cellN 0 118 _ _ _ _ rfl rfl sh118 rfl) .nil, ?_⟩
  exact .refl _
abbrev shopC (s : Shop) (n m : Nat) : List U := [.lst .ro 3 (trisU s.tools), .int .i64 s.flo, .int .i64 s.fhi, .lst .ro 3 (trisU s.keys), fn82 n, fn82 m]
abbrev new68 (s : Shop) (n : Nat) (es es' : List (U × U)) : List SB := [.box s.cs, .box (shopC s (n + 4) (n + 10)), .box (shopC s (n + 4) (n + 10)), .box waysC] ++ (six s true (n + 4) es ++ six s false (n + 10) es')
theorem fd_way (w : Bool) (k : Nat) : ∀ c ∈ wayC w, Fwd k c := fun c hc => (nb_way w c hc).fwd k
theorem fd_82 {k n : Nat} (h : k ≤ n) : Fwd k (fn82 n) := Fwd.fn (fun u hu => by cases hu) fun u hu => by
  simp only [List.mem_cons, List.not_mem_nil, or_false] at hu
  rcases hu with rfl | rfl | rfl | rfl | rfl <;> exact Fwd.box (by omega)
theorem fd_six (s : Shop) (w : Bool) {k n : Nat} (h : k ≤ n) : ∀ x ∈ six s w n [], FwdS k x := by
  intro x hx
  simp only [List.mem_cons, List.not_mem_nil, or_false] at hx
  rcases hx with rfl | rfl | rfl | rfl | rfl | rfl
  · exact fun c hc => (nb_cs6 s c hc).fwd k
  · exact fd_way w k
  · exact fun p hp => by cases hp
  · intro c hc; rcases List.mem_singleton.1 hc with rfl; exact Fwd.mp (by omega)
  · intro c hc; rcases List.mem_singleton.1 hc with rfl
    exact Fwd.fn (fun u hu => by rcases List.mem_singleton.1 hu with rfl; exact (NB.agg (nb_cs6 s)).fwd k) (fun u hu => by cases hu)
  · intro c hc; rcases List.mem_singleton.1 hc with rfl; exact fd_82 h
noncomputable def b68 : Code := (Try.f68.body).getD .skip
theorem body68 : bodyOf Try.prog 68 = some (19, b68, [.cell 2 73]) := by kernel_rfl
theorem pure68 : pureFn Try.prog 68 = false := by kernel_rfl
set_option maxHeartbeats 4000000 in
theorem wpc68 (hi : Off is) (s : Shop) (st : List SB) : WpC Try.prog is orc 68 [s.u] st fun u st' => u = .agg (shopC s (st.length + 4) (st.length + 10)) ∧ st' = st ++ new68 s st.length [] [] := by
  obtain ⟨n, hn⟩ : ∃ n, st.length = n := ⟨_, rfl⟩
  rw [hn]
  have hlk : ∀ (l : List SB) (i : Nat), (st ++ l)[n + i]? = l[i]? := fun l i => by rw [← hn, List.getElem?_append_right (by omega), Nat.add_sub_cancel_left]
  have hll : ∀ l : List SB, (st ++ l).length = n + l.length := fun l => by rw [List.length_append, hn]
  refine wpc_of body68 pure68 rfl rfl ?_
  refine k_seq (k_region ?_)
  refine o_box rfl rfl ?_
  refine o_alloc rfl ze73 ?_
  refine o_nil ?_
  refine k_gen [(1, .box (n + 0) 0), (2, .box (n + 1) 0)] (st ++ [.box s.cs, .box [.lst .full 0 [], .int .i64 0, .int .i64 0, .lst .full 0 [], .nilf, .nilf]]) (.cons (by show U.box st.length 0 = _; rw [hn]; rfl) (.cons (by show U.box (st ++ [_]).length 0 = _; rw [hll]; rfl) (.nil rfl))) (by show (st ++ [_]) ++ [_] = _; rw [List.append_assoc]; rfl) fun fr => ?_
  refine k_seq (k_region ?_)
  refine o_loadN rfl rfl (cs := s.cs) (hlk _ 0) sh27 rfl ?_
  refine o_build (cs := s.cs6) rfl ze73 pl73 rfl rfl ?_
  refine o_alloc rfl ze73 ?_
  refine o_storeN rfl (at_new _ _) sh73 rfl rfl rfl rfl rfl ?_
  refine o_nil ?_
  refine k_gen [(2, .box (n + 1) 0), (3, .box (n + 2) 0)] (st ++ [.box s.cs, .box [.lst .full 0 [], .int .i64 0, .int .i64 0, .lst .full 0 [], .nilf, .nilf], .box s.cs6]) (.cons rfl (.cons (by show U.box (st ++ [_, _]).length 0 = _; rw [hll]; rfl) (.nil rfl))) (by show ((st ++ [_, _]) ++ [_]).set (st ++ [_, _]).length _ = _; rw [set_end, List.append_assoc]; rfl) fun fr => ?_
  refine k_seq (k_region ?_)
  refine o_call rfl ret76 (.lrefl _) ?_
  refine o_alloc rfl ze118 ?_
  refine o_storeN rfl (at_new _ _) sh118 rfl rfl rfl rfl rfl ?_
  refine o_nil ?_
  refine k_gen [(2, .box (n + 1) 0), (3, .box (n + 2) 0), (4, .box (n + 3) 0)] (st ++ [.box s.cs, .box [.lst .full 0 [], .int .i64 0, .int .i64 0, .lst .full 0 [], .nilf, .nilf], .box s.cs6, .box waysC]) (.cons rfl (.cons rfl (.cons (by show U.box (st ++ [_, _, _]).length 0 = _; rw [hll]; rfl) (.nil rfl)))) (by show ((st ++ [_, _, _]) ++ [_]).set (st ++ [_, _, _]).length _ = _; rw [set_end, List.append_assoc]; rfl) fun fr => ?_
  refine k_seq ?_
  refine k_draw [.read true, .plain, .read true, .quiet, .read true, .plain, .read true, .plain, .plain, .plain, .plain, .plain] (by kernel_rfl) (by kernel_rfl) (by kernel_rfl) ?_
  refine d_load rfl (o_loadN rfl rfl (hlk _ 2) sh73 rfl (o_nil rfl)) ?_
  refine d_plain (o_idxA rfl ty118 rfl rfl (by omega) (by omega) cl117 (o_nil rfl)) ?_
  refine d_load rfl (o_loadN rfl rfl (hlk _ 3) sh117 rfl (o_nil rfl)) ?_
  have hk4 : ∀ a b c d : SB, (st ++ [a, b, c, d]).length = n + 4 := fun a b c d => hll _
  refine d_callQW (n := n + 4) (args := [.agg s.cs6, .agg (wayC true)]) (M := fun u new => u = fn82 (n + 4) ∧ new = six s true (n + 4) []) (hk4 _ _ _ _) rfl (fun u hu => by
    simp only [List.mem_cons, List.not_mem_nil, or_false] at hu
    rcases hu with rfl | rfl
    · exact NB.agg (nb_cs6 s)
    · exact NB.agg (nb_way true)) ((wpc77 s true _).mono fun u st' hM => ?_) (.lrefl _) (fun u new hM => ?_)
  · obtain ⟨rfl, rfl⟩ := hM
    rw [List.length_replicate]
    exact ⟨six s true (n + 4) [], rfl, fd_82 (Nat.le_refl _), fd_six s true (Nat.le_refl _), rfl, rfl⟩
  · obtain ⟨rfl, rfl⟩ := hM
    have hlk4 : ∀ (l r : List SB) (i : Nat) (x : SB), l[i]? = some x → ((st ++ l) ++ r)[n + i]? = some x := fun l r i x h => by rw [at_pre (x := x)]; rw [hlk]; exact h
    refine d_load rfl (o_loadN rfl rfl (cs := s.cs6) (hlk4 _ _ 2 _ rfl) sh73 rfl (o_nil rfl)) ?_
    refine d_plain (o_idxA rfl ty118 rfl rfl (by omega) (by omega) cl117 (o_nil rfl)) ?_
    refine d_load rfl (o_loadN rfl rfl (cs := waysC) (hlk4 _ _ 3 _ rfl) sh117 rfl (o_nil rfl)) ?_
    refine d_plain (o_callW rfl (wpc77 s false _) (.lrefl _) (fun u st1 hM => by obtain ⟨rfl, rfl⟩ := hM; exact o_nil rfl)) ?_
    have hk10 : ∀ l m : List SB, l.length = 4 → m.length = 6 → ((st ++ l) ++ m).length = n + 10 := fun l m h1 h2 => by rw [List.length_append, hll, h1, h2]
    refine d_gen [(2, .box (n + 1) 0), (3, .box (n + 2) 0), (11, fn82 (n + 4)), (15, fn82 (n + 10))] (st ++ ([.box s.cs, .box [.lst .full 0 [], .int .i64 0, .int .i64 0, .lst .full 0 [], .nilf, .nilf], .box s.cs6, .box waysC] ++ (six s true (n + 4) [] ++ six s false (n + 10) []))) (.cons rfl (.cons rfl (.cons rfl (.cons (by
      show fn82 ((st ++ [_, _, _, _]) ++ [_, _, _, _, _, _]).length = fn82 (n + 10)
      rw [hk10 _ _ rfl rfl]) (.nil rfl))))) (by
      show ((st ++ [_, _, _, _]) ++ six s true (n + 4) []) ++ six s false ((st ++ [_, _, _, _]) ++ [_, _, _, _, _, _]).length [] = _
      rw [hk10 _ _ rfl rfl, List.append_assoc, List.append_assoc]) fun fr => ?_
    refine d_plain (o_faddr rfl rfl fld73_1 (o_nil rfl)) ?_
    refine d_plain (o_store1 rfl (cs := s.cs6) (hlk _ 2) sh71 rfl rfl (o_nil rfl)) ?_
    have hset : ∀ (l : List SB) (i : Nat) (x : SB), (st ++ l).set (n + i) x = st ++ l.set i x := fun l i x => by rw [List.set_append_right _ _ (by omega), hn, Nat.add_sub_cancel_left]
    refine d_gen [(2, .box (n + 1) 0), (3, .box (n + 2) 0), (11, fn82 (n + 4)), (15, fn82 (n + 10))] (st ++ ([.box s.cs, .box [.lst .full 0 [], .int .i64 0, .int .i64 0, .lst .full 0 [], .nilf, .nilf], .box [.lst .ro 3 (trisU s.tools), .int .i64 s.flo, .int .i64 s.fhi, .lst .ro 3 (trisU s.keys), fn82 (n + 4), .nilf], .box waysC] ++ (six s true (n + 4) [] ++ six s false (n + 10) []))) (.cons rfl (.cons rfl (.cons rfl (.cons rfl (.nil rfl))))) (by show (st ++ _).set (n + 2) _ = _; rw [hset]; rfl) fun fr => ?_
    refine d_plain (o_faddr rfl rfl fld73_2 (o_nil rfl)) ?_
    refine d_plain (o_store1 rfl (cs := [.lst .ro 3 (trisU s.tools), .int .i64 s.flo, .int .i64 s.fhi, .lst .ro 3 (trisU s.keys), fn82 (n + 4), .nilf]) (hlk _ 2) sh71 rfl rfl (o_nil rfl)) ?_
    refine d_nil ?_
    refine k_gen [(2, .box (n + 1) 0), (3, .box (n + 2) 0)] (st ++ ([.box s.cs, .box [.lst .full 0 [], .int .i64 0, .int .i64 0, .lst .full 0 [], .nilf, .nilf], .box (shopC s (n + 4) (n + 10)), .box waysC] ++ (six s true (n + 4) [] ++ six s false (n + 10) []))) (.cons rfl (.cons rfl (.nil rfl))) (by show (st ++ _).set (n + 2) _ = _; rw [hset]; rfl) fun fr => ?_
    refine k_seq (k_region ?_)
    refine o_loadN rfl rfl (cs := shopC s (n + 4) (n + 10)) (hlk _ 2) sh73 rfl ?_
    refine o_storeN rfl (hlk _ 1) sh73 rfl rfl rfl rfl rfl ?_
    refine o_nil ?_
    refine k_gen [(2, .box (n + 1) 0)] (st ++ new68 s n [] []) (.cons rfl (.nil rfl)) (by show (st ++ _).set (n + 1) _ = _; rw [hset]; rfl) fun fr => ?_
    refine k_ret ?_
    refine ⟨.inr rfl, _, .cons _ _ _ _ (.cellN 2 73 _ _ _ _ rfl (hlk _ 1) sh73 rfl) .nil, ?_⟩
    exact ⟨_, .refl _, rfl, rfl⟩
abbrev z6 : List U := [.lst .full 0 [], .int .i64 0, .int .i64 0, .lst .full 0 [], .nilf, .nilf]
theorem nb_z6 : ∀ c ∈ z6, NB c := by
  intro c hc
  simp only [List.mem_cons, List.not_mem_nil, or_false] at hc
  rcases hc with rfl | rfl | rfl | rfl | rfl | rfl <;> first | exact NB.int _ _ | exact NB.nilf | exact NB.lst fun c hc => by cases hc
theorem nb_two2 {a b : U} (ha : NB a) (hb : NB b) : NB (.tup [a, b]) := NB.tup fun c hc => by
  simp only [List.mem_cons, List.not_mem_nil, or_false] at hc
  rcases hc with rfl | rfl <;> assumption
noncomputable def b46 : Code := (Try.f46.body).getD .skip
theorem body46 : bodyOf Try.prog 46 = some (18, b46, [.cell 4 73, .tmp 5]) := by kernel_rfl
theorem pure46 : pureFn Try.prog 46 = false := by kernel_rfl
set_option maxHeartbeats 4000000 in
theorem wpc46 (hi : Off is) (s : Shop) (hck : RetP Try.prog is orc 16 [s.u] (.int .i64 0)) (st : List SB) : WpC Try.prog is orc 46 [s.u, .bool true] st fun u st' => u = .tup [.agg (shopC s (st.length + 6) (st.length + 12)), .int .i64 0] ∧ st' = st ++ ([.box s.cs, .box (shopC s (st.length + 6) (st.length + 12))] ++ new68 s (st.length + 2) [] []) := by
  obtain ⟨n, hn⟩ : ∃ n, st.length = n := ⟨_, rfl⟩
  rw [hn]
  have hlk : ∀ (l : List SB) (i : Nat), (st ++ l)[n + i]? = l[i]? := fun l i => by rw [← hn, List.getElem?_append_right (by omega), Nat.add_sub_cancel_left]
  have hll : ∀ l : List SB, (st ++ l).length = n + l.length := fun l => by rw [List.length_append, hn]
  have hset : ∀ (l : List SB) (i : Nat) (x : SB), (st ++ l).set (n + i) x = st ++ l.set i x := fun l i x => by rw [List.set_append_right _ _ (by omega), hn, Nat.add_sub_cancel_left]
  refine wpc_of body46 pure46 rfl rfl ?_
  refine k_seq (k_region ?_)
  refine o_box rfl rfl ?_
  refine o_alloc rfl ze73 ?_
  refine o_assign rfl ?_
  refine o_nil ?_
  refine k_gen [(1, .bool true), (2, .box (n + 0) 0), (4, .box (n + 1) 0), (5, .int .i64 0)] (st ++ [.box s.cs, .box z6]) (.cons rfl (.cons (by show U.box st.length 0 = _; rw [hn]; rfl) (.cons (by show U.box (st ++ [_]).length 0 = _; rw [hll]; rfl) (.cons rfl (.nil rfl))))) (by show (st ++ [_]) ++ [_] = _; rw [List.append_assoc]; rfl) fun fr => ?_
  refine k_seq ?_
  refine k_seq (k_region ?_)
  refine o_loadN rfl rfl (cs := s.cs) (hlk _ 0) sh27 rfl ?_
  refine o_call rfl hck (.lrefl _) ?_
  refine o_assign rfl ?_
  refine o_nil ?_
  refine k_seq (k_region ?_)
  refine o_move rfl ?_
  refine o_neq rfl rfl rfl ?_
  refine o_nil ?_
  refine k_cond rfl (fun h1 => absurd h1 (by decide)) (fun _ => ?_)
  refine k_skip ?_
  refine k_seq ?_
  refine k_seq (k_region ?_)
  refine o_move rfl ?_
  refine o_not rfl rfl ?_
  refine o_nil ?_
  refine k_cond rfl (fun h2 => by cases h2) (fun _ => ?_)
  refine k_skip ?_
  refine k_seq (k_region ?_)
  refine o_loadN rfl rfl (cs := s.cs) (hlk _ 0) sh27 rfl ?_
  refine o_callW rfl (wpc68 hi s _) (.lrefl _) (fun u st1 hM => ?_)
  obtain ⟨rfl, rfl⟩ := hM
  refine o_storeN rfl (cs := z6) (at_pre (by show (st ++ _)[n + 1]? = _; rw [hlk]; rfl)) sh73 rfl rfl rfl rfl rfl ?_
  refine o_assign rfl ?_
  refine o_nil ?_
  refine k_gen [(4, .box (n + 1) 0), (5, .int .i64 0)] (st ++ ([.box s.cs, .box (shopC s (n + 6) (n + 12))] ++ new68 s (n + 2) [] [])) (.cons rfl (.cons rfl (.nil rfl))) (by
    show ((st ++ [SB.box s.cs, .box z6]) ++ new68 s (st ++ [_, _]).length [] []).set (n + 1) (.box (shopC s ((st ++ [_, _]).length + 4) ((st ++ [_, _]).length + 10))) = _
    rw [hll, List.append_assoc, hset]; rfl) fun fr => ?_
  refine k_ret ?_
  refine ⟨.inr rfl, _, .cons _ _ _ _ (.cellN 4 73 _ _ _ (shopC s (n + 6) (n + 12)) rfl (by show (st ++ _)[n + 1]? = _; rw [hlk]; rfl) sh73 rfl) (.cons _ _ _ _ (.tmp 5) .nil), ?_⟩
  exact ⟨_, .refl _, rfl, rfl⟩
set_option maxHeartbeats 4000000 in
theorem ret46e (s : Shop) {c : Int} (hc : c ≠ 0) (hck : RetP Try.prog is orc 16 [s.u] (.int .i64 c)) (q : Bool) : RetP Try.prog is orc 46 [s.u, .bool q] (.tup [.agg z6, .int .i64 c]) := by
  refine ret_of_shared body46 pure46 rfl rfl (by
    intro u hu
    simp only [List.mem_cons, List.not_mem_nil, or_false] at hu
    rcases hu with rfl | rfl
    · exact ⟨(dat_shop s 5).nb, NoOwn.of (by intro z es h; cases h)⟩
    · exact ⟨NB.bool _, NoOwn.of (by intro z es h; cases h)⟩) (nb_two2 (NB.agg nb_z6) (NB.int _ _)) ?_
  refine k_seq (k_region ?_)
  refine o_box rfl rfl ?_
  refine o_alloc rfl ze73 ?_
  refine o_assign rfl ?_
  refine o_nil ?_
  refine k_seq ?_
  refine k_seq (k_region ?_)
  refine o_loadN rfl rfl rfl sh27 rfl ?_
  refine o_call rfl hck (.lrefl _) ?_
  refine o_assign rfl ?_
  refine o_nil ?_
  refine k_seq (k_region ?_)
  refine o_move rfl ?_
  refine o_neq rfl rfl rfl ?_
  refine o_nil ?_
  refine k_cond rfl (fun _ => ?_) (fun h1 => absurd (of_decide_eq_false h1) (fun h => h hc))
  refine k_seq (k_region ?_)
  refine o_build rfl ze73 pl73 rfl rfl ?_
  refine o_move rfl ?_
  refine o_storeN rfl rfl sh73 rfl rfl rfl rfl rfl ?_
  refine o_assign rfl ?_
  refine o_nil ?_
  refine k_ret ?_
  refine ⟨.inr rfl, _, .cons _ _ _ _ (.cellN 4 73 _ _ _ _ rfl rfl sh73 rfl) (.cons _ _ _ _ (.tmp 5) .nil), ?_⟩
  exact .refl _
set_option maxHeartbeats 4000000 in
theorem ret46q (s : Shop) (hck : RetP Try.prog is orc 16 [s.u] (.int .i64 0)) : RetP Try.prog is orc 46 [s.u, .bool false] (.tup [.agg z6, .int .i64 31]) := by
  refine ret_of_shared body46 pure46 rfl rfl (by
    intro u hu
    simp only [List.mem_cons, List.not_mem_nil, or_false] at hu
    rcases hu with rfl | rfl
    · exact ⟨(dat_shop s 5).nb, NoOwn.of (by intro z es h; cases h)⟩
    · exact ⟨NB.bool _, NoOwn.of (by intro z es h; cases h)⟩) (nb_two2 (NB.agg nb_z6) (NB.int _ _)) ?_
  refine k_seq (k_region ?_)
  refine o_box rfl rfl ?_
  refine o_alloc rfl ze73 ?_
  refine o_assign rfl ?_
  refine o_nil ?_
  refine k_seq ?_
  refine k_seq (k_region ?_)
  refine o_loadN rfl rfl rfl sh27 rfl ?_
  refine o_call rfl hck (.lrefl _) ?_
  refine o_assign rfl ?_
  refine o_nil ?_
  refine k_seq (k_region ?_)
  refine o_move rfl ?_
  refine o_neq rfl rfl rfl ?_
  refine o_nil ?_
  refine k_cond rfl (fun h1 => absurd h1 (by decide)) (fun _ => ?_)
  refine k_skip ?_
  refine k_seq ?_
  refine k_seq (k_region ?_)
  refine o_move rfl ?_
  refine o_not rfl rfl ?_
  refine o_nil ?_
  refine k_cond rfl (fun _ => ?_) (fun h2 => by cases h2)
  refine k_seq (k_region ?_)
  refine o_build rfl ze73 pl73 rfl rfl ?_
  refine o_storeN rfl rfl sh73 rfl rfl rfl rfl rfl ?_
  refine o_assign rfl ?_
  refine o_nil ?_
  refine k_ret ?_
  refine ⟨.inr rfl, _, .cons _ _ _ _ (.cellN 4 73 _ _ _ _ rfl rfl sh73 rfl) (.cons _ _ _ _ (.tmp 5) .nil), ?_⟩
  exact .refl _
theorem foldmax_ge (l : List Int) : ∀ a : Int, a ≤ l.foldl (fun a b => max a b) a := by
  induction l with
  | nil => intro a; exact Int.le_refl _
  | cons x l ih => intro a; have := ih (max a x); show a ≤ l.foldl _ (max a x); omega
theorem foldmax_mem (l : List Int) : ∀ (a x : Int), x ∈ l → x ≤ l.foldl (fun a b => max a b) a := by
  induction l with
  | nil => intro a x h; cases h
  | cons y l ih =>
    intro a x h
    show x ≤ l.foldl _ (max a y)
    rcases List.mem_cons.1 h with rfl | h
    · have := foldmax_ge l (max a x); omega
    · exact ih _ _ h
theorem foldmax_le (l : List Int) (m : Int) : ∀ a : Int, a ≤ m → (∀ x ∈ l, x ≤ m) → l.foldl (fun a b => max a b) a ≤ m := by
  induction l with
  | nil => intro a h _; exact h
  | cons y l ih =>
    intro a h hl
    have := hl y List.mem_cons_self
    exact ih (max a y) (by omega) fun x hx => hl x (List.mem_cons_of_mem _ hx)
theorem foldmin_le (l : List Int) : ∀ a : Int, l.foldl (fun a b => min a b) a ≤ a := by
  induction l with
  | nil => intro a; exact Int.le_refl _
  | cons x l ih => intro a; have := ih (min a x); show l.foldl _ (min a x) ≤ a; omega
theorem foldmin_mem (l : List Int) : ∀ a : Int, l.foldl (fun a b => min a b) a = a ∨ l.foldl (fun a b => min a b) a ∈ l := by
  induction l with
  | nil => intro a; exact .inl rfl
  | cons x l ih =>
    intro a
    show l.foldl _ (min a x) = a ∨ l.foldl _ (min a x) ∈ _
    rcases ih (min a x) with h | h
    · rw [h]
      by_cases hx : a ≤ x
      · exact .inl (by omega)
      · exact .inr (by rw [show min a x = x by omega]; exact List.mem_cons_self)
    · exact .inr (List.mem_cons_of_mem _ h)
theorem cho_fine {s : Shop} (hs : SOk s) {w : Bool} {off metal : Int} (h0 : 0 ≤ metal) (h : fineB s off = true) : cho s w off metal = (-1, 0) := by
  rw [cho_eq hs h0, if_pos h]
abbrev nx0 (s : Shop) (es : List (U × U)) : List SB := [.box s.cs] ++ ([.box s.cs, .box (shopC s 7 13)] ++ new68 s 3 es [])
abbrev nxX (s : Shop) (es : List (U × U)) : List SB := nx0 s es ++ [.box (shopC s 7 13)]
theorem bd_span (n : Nat) (a b : Int) : Bd n (spanU a b) := (NB.agg fun c hc => by
  simp only [List.mem_cons, List.not_mem_nil, or_false] at hc
  rcases hc with rfl | rfl <;> exact NB.int _ _).bd n
theorem bd_82 {k n : Nat} (h : n + 5 < k) : Bd k (fn82 n) := Bd.fn (fun u hu => by cases hu) fun u hu => by
  simp only [List.mem_cons, List.not_mem_nil, or_false] at hu
  rcases hu with rfl | rfl | rfl | rfl | rfl <;> exact Bd.box (by omega)
theorem bd_six (s : Shop) (w w' : Bool) {k n : Nat} (h : n + 5 < k) {es : List (U × U)} (he : Memo s w' es) : ∀ x ∈ six s w n es, BdS k x := by
  intro x hx
  simp only [List.mem_cons, List.not_mem_nil, or_false] at hx
  rcases hx with rfl | rfl | rfl | rfl | rfl | rfl
  · exact fun c hc => (nb_cs6 s c hc).bd k
  · exact fun c hc => (nb_way w c hc).bd k
  · intro p hp
    obtain ⟨o, m, rfl⟩ := he p hp
    exact ⟨bd_span _ _ _, bd_span _ _ _⟩
  · intro c hc; rcases List.mem_singleton.1 hc with rfl; exact Bd.mp (by omega)
  · intro c hc; rcases List.mem_singleton.1 hc with rfl
    exact (NB.fn (fun u hu => by rcases List.mem_singleton.1 hu with rfl; exact NB.agg (nb_cs6 s)) (fun u hu => by cases hu)).bd k
  · intro c hc; rcases List.mem_singleton.1 hc with rfl; exact bd_82 h
theorem bd_cs (s : Shop) (k : Nat) : BdS k (.box s.cs) := by
  intro c hc
  have := (dat_shop s 5)
  simp only [List.mem_cons, List.not_mem_nil, or_false] at hc
  rcases hc with rfl | rfl | rfl | rfl <;> first | exact (NB.int _ _).bd k | exact (dat_tris _ _ (fun h => by cases h) 0).nb.bd k
theorem bd_shopC (s : Shop) {k n m : Nat} (h : n + 5 < k) (h2 : m + 5 < k) : BdS k (.box (shopC s n m)) := by
  intro c hc
  simp only [List.mem_cons, List.not_mem_nil, or_false] at hc
  rcases hc with rfl | rfl | rfl | rfl | rfl | rfl <;> first | exact (NB.int _ _).bd k | exact (dat_tris _ _ (fun h => by cases h) 0).nb.bd k | exact bd_82 h | exact bd_82 h2
theorem bd_nx (s : Shop) {es : List (U × U)} (he : Memo s true es) : ∀ x ∈ nxX s es, BdS 20 x := by
  intro x hx
  simp only [nxX, nx0, new68, List.mem_append] at hx
  rcases hx with ((hx | (hx | (hx | (hx | hx)))) | hx)
  · rcases List.mem_singleton.1 hx with rfl; exact bd_cs _ _
  · simp only [List.mem_cons, List.not_mem_nil, or_false] at hx
    rcases hx with rfl | rfl
    · exact bd_cs _ _
    · exact bd_shopC s (by decide) (by decide)
  · simp only [List.mem_cons, List.not_mem_nil, or_false] at hx
    rcases hx with rfl | rfl | rfl | rfl
    · exact bd_cs _ _
    · exact bd_shopC s (by decide) (by decide)
    · exact bd_shopC s (by decide) (by decide)
    · exact fun c hc => (nb_ways c hc).bd _
  · exact bd_six s true true (by decide) he x hx
  · exact bd_six s false true (by decide) (Memo.nil _ _) x hx
  · rcases List.mem_singleton.1 hx with rfl; exact bd_shopC s (by decide) (by decide)
theorem sr_nx (s : Shop) : Sr s true 20 7 8 9 10 11 12 (nxX s) := ⟨fun _ => rfl, fun _ he => bd_nx s he, fun _ => rfl, fun _ => rfl, fun _ => rfl, fun _ => rfl, fun _ => rfl, fun _ => rfl, fun _ _ => rfl, by decide⟩
theorem fd_cs (s : Shop) (k : Nat) : FwdS k (.box s.cs) := by
  intro c hc
  simp only [List.mem_cons, List.not_mem_nil, or_false] at hc
  rcases hc with rfl | rfl | rfl | rfl <;> first | exact (NB.int _ _).fwd k | exact (dat_tris _ _ (fun h => by cases h) 0).nb.fwd k
theorem fd_shopC (s : Shop) {k n m : Nat} (h : k ≤ n) (h2 : k ≤ m) : ∀ c ∈ shopC s n m, Fwd k c := by
  intro c hc
  simp only [List.mem_cons, List.not_mem_nil, or_false] at hc
  rcases hc with rfl | rfl | rfl | rfl | rfl | rfl <;> first | exact (NB.int _ _).fwd k | exact (dat_tris _ _ (fun h => by cases h) 0).nb.fwd k | exact fd_82 h | exact fd_82 h2
theorem fd_new (s : Shop) {k n : Nat} (h : k ≤ n) : ∀ x ∈ new68 s n [] [], FwdS k x := by
  intro x hx
  simp only [new68, List.mem_append] at hx
  rcases hx with hx | (hx | hx)
  · simp only [List.mem_cons, List.not_mem_nil, or_false] at hx
    rcases hx with rfl | rfl | rfl | rfl
    · exact fd_cs _ _
    · exact fd_shopC s (by omega) (by omega)
    · exact fd_shopC s (by omega) (by omega)
    · exact fun c hc => (nb_ways c hc).fwd _
  · exact fd_six s true (by omega) x hx
  · exact fd_six s false (by omega) x hx
theorem dat_next (s : Shop) (a b : Int) : ∀ v ∈ [s.u, .int .i64 a, .int .i64 b], Dat 8 v := dat_l3 (dat_shop s 5) (.int _ _ _) (.int _ _ _)
theorem datR_next (a b c : Int) : DatR (.tup [.int .i64 a, .int .i64 b, .int .i64 c]) := .inr ⟨_, rfl, dat_l3 (.int _ _ _) (.int _ _ _) (.int _ _ _)⟩
noncomputable def b14 : Code := (Try.f14.body).getD .skip
theorem body14 : bodyOf Try.prog 14 = some (38, b14, [.tmp 6, .tmp 7, .tmp 8]) := by kernel_rfl
theorem pure14 : pureFn Try.prog 14 = true := by kernel_rfl
def metB (m : Int) : Bool := decide (0 ≤ m) && decide (m ≤ 30)
abbrev nextU (x : Int × Int) : U := if x.2 = 31 then .tup [.int .i64 0, .int .i64 0, .int .i64 4] else .tup [.int .i64 x.1, .int .i64 x.2, .int .i64 0]
set_option maxHeartbeats 4000000 in
theorem ret14 (hi : Off is) {s : Shop} (hk : SOk s) (hck : RetP Try.prog is orc 16 [s.u] (.int .i64 0)) {off metal : Int} (ho : offB off = true) (hm : metB metal = true) : RetP Try.prog is orc 14 [s.u, .int .i64 off, .int .i64 metal] (nextU (cho s true off metal)) := by
  have hm' : 0 ≤ metal ∧ metal ≤ 30 := by unfold metB at hm; simpa using hm
  have h47 : RetP Try.prog is orc 47 [.int .i64 off] (.bool true) := by
    have := ret47 (orc := orc) hi off
    rwa [show (decide (-60 ≤ off) && decide (off ≤ 60)) = true from ho] at this
  have h48 : RetP Try.prog is orc 48 [.int .i64 metal] (.bool true) := by
    have := ret48 (orc := orc) hi metal
    rwa [show (decide (0 ≤ metal) && decide (metal ≤ 30)) = true from hm] at this
  refine ret_of body14 pure14 (hi 14 (by decide)) rfl rfl (dat_next s off metal) (by unfold nextU; split <;> exact datR_next _ _ _) ?_
  refine k_seq (k_region ?_)
  refine o_box rfl rfl ?_
  refine o_assign rfl ?_
  refine o_assign rfl ?_
  refine o_assign rfl ?_
  refine o_nil ?_
  refine k_seq ?_
  refine k_draw [.read true, .plain, .read false, .plain, .plain, .read false, .plain, .quiet, .plain, .plain, .plain, .pre, .plain, .plain] (by kernel_rfl) (by kernel_rfl) (by kernel_rfl) ?_
  refine d_load rfl (o_loadN rfl rfl rfl sh27 rfl (o_nil rfl)) ?_
  refine d_plain (o_move rfl (o_nil rfl)) ?_
  refine d_callR rfl h47 (.bool _) (.lrefl _) ?_
  refine d_plain (o_move rfl (o_nil rfl)) ?_
  refine d_guard rfl rfl rfl rfl (fun _ => ?_) (fun h => by cases h)
  refine d_plain (o_move rfl (o_nil rfl)) ?_
  refine d_guard rfl rfl rfl rfl (fun _ => ?_) (fun h => by cases h)
  refine d_callR rfl h48 (.bool _) (.lrefl _) ?_
  refine d_plain (o_pickT rfl rfl rfl (o_nil rfl)) ?_
  refine d_callQW (n := 1) (args := [s.u, .bool true]) (M := fun u new => u = .tup [.agg (shopC s 7 13), .int .i64 0] ∧ new = [.box s.cs, .box (shopC s 7 13)] ++ new68 s 3 [] []) rfl rfl (fun u hu => by
    simp only [List.mem_cons, List.not_mem_nil, or_false] at hu
    rcases hu with rfl | rfl
    · exact (dat_shop s 5).nb
    · exact NB.bool _) ((wpc46 hi s hck _).mono fun u st' hM => ?_) (.lrefl _) (fun u new hM => ?_)
  · obtain ⟨rfl, rfl⟩ := hM
    rw [List.length_replicate]
    refine ⟨[.box s.cs, .box (shopC s 7 13)] ++ new68 s 3 [] [], rfl, Fwd.tup fun c hc => ?_, fun x hx => ?_, rfl, rfl⟩
    · simp only [List.mem_cons, List.not_mem_nil, or_false] at hc
      rcases hc with rfl | rfl
      · exact Fwd.agg (fd_shopC s (by decide) (by decide))
      · exact (NB.int _ _).fwd _
    · rcases List.mem_append.1 hx with hx | hx
      · simp only [List.mem_cons, List.not_mem_nil, or_false] at hx
        rcases hx with rfl | rfl
        · exact fd_cs _ _
        · exact fd_shopC s (by decide) (by decide)
      · exact fd_new s (by decide) x hx
  · obtain ⟨rfl, rfl⟩ := hM
    refine d_plain (o_move rfl (o_nil rfl)) ?_
    refine d_plain (o_extract rfl rfl rfl (o_nil rfl)) ?_
    refine d_plain (o_extract rfl rfl rfl (o_nil rfl)) ?_
    refine d_pre rfl ze73 ?_
    refine d_plain (o_storeN rfl rfl sh73 rfl rfl rfl rfl rfl (o_nil rfl)) ?_
    refine d_plain (o_assign rfl (o_nil rfl)) ?_
    refine d_nil ?_
    refine k_gen [(1, .int .i64 off), (2, .int .i64 metal), (8, .int .i64 0), (9, .box 19 0)] (nxX s []) (.cons rfl (.cons rfl (.cons rfl (.cons rfl (.nil rfl))))) rfl fun fr => ?_
    refine k_seq ?_
    refine k_seq (k_region ?_)
    refine o_move rfl ?_
    refine o_neq rfl rfl rfl ?_
    refine o_nil ?_
    refine k_cond rfl (fun h1 => absurd h1 (by decide)) (fun _ => ?_)
    refine k_skip ?_
    refine k_seq (k_region ?_)
    refine o_faddr rfl rfl fld73_1 ?_
    refine o_load1 rfl rfl (cs := shopC s 7 13) rfl sh71 rfl ?_
    refine o_move rfl ?_
    refine o_move rfl ?_
    refine o_build (cs := [.int .i64 off, .int .i64 metal]) rfl ze80 pl80 rfl rfl ?_
    refine o_callV rfl rfl (by
      have := wpc82 (orc := orc) hi hk (sr_nx s) 31 metal off (by omega) hm'.1 hm'.2 [] [] (Memo.nil _ _) (fun x hx => by cases hx)
      rw [List.append_nil] at this
      exact this) (.lrefl _) (fun u st1 hM => ?_)
    obtain ⟨rfl, es, he, rfl⟩ := hM
    refine o_alloc rfl ze78 ?_
    refine o_storeN rfl rfl sh78 rfl rfl rfl rfl rfl ?_
    refine o_nil ?_
    refine k_gen [(8, .int .i64 0), (10, .box 20 0)] (nxX s es ++ [.box [.int .i64 (cho s true off metal).1, .int .i64 (cho s true off metal).2]]) (.cons rfl (.cons rfl (.nil rfl))) rfl fun fr => ?_
    refine k_seq ?_
    refine k_seq (k_region ?_)
    refine o_faddr rfl rfl fld78_1 ?_
    refine o_load1 rfl rfl rfl sh3 rfl ?_
    refine o_eql rfl rfl rfl ?_
    refine o_nil ?_
    refine k_cond rfl (fun h3 => ?_) (fun h3 => ?_)
    · refine k_seq (k_region ?_)
      refine o_assign rfl ?_
      refine o_assign rfl ?_
      refine o_assign rfl ?_
      refine o_nil ?_
      refine k_ret ?_
      refine ⟨.inr rfl, _, .cons _ _ _ _ (.tmp 6) (.cons _ _ _ _ (.tmp 7) (.cons _ _ _ _ (.tmp 8) .nil)), ?_⟩
      rw [show nextU (cho s true off metal) = .tup [.int .i64 0, .int .i64 0, .int .i64 4] from if_pos (of_decide_eq_true h3)]; exact .refl _
    · refine k_skip ?_
      refine k_seq ?_
      refine k_draw [.plain, .read true, .plain, .read true, .plain, .plain, .plain] (by kernel_rfl) (by kernel_rfl) (by kernel_rfl) ?_
      refine d_plain (o_faddr rfl rfl fld78_0 (o_nil rfl)) ?_
      refine d_load rfl (o_load1 rfl rfl rfl sh3 rfl (o_nil rfl)) ?_
      refine d_plain (o_faddr rfl rfl fld78_1 (o_nil rfl)) ?_
      refine d_load rfl (o_load1 rfl rfl rfl sh3 rfl (o_nil rfl)) ?_
      refine d_plain (o_assign rfl (o_nil rfl)) ?_
      refine d_plain (o_assign rfl (o_nil rfl)) ?_
      refine d_plain (o_assign rfl (o_nil rfl)) ?_
      refine d_nil ?_
      refine k_ret ?_
      refine ⟨.inr rfl, _, .cons _ _ _ _ (.tmp 6) (.cons _ _ _ _ (.tmp 7) (.cons _ _ _ _ (.tmp 8) .nil)), ?_⟩
      rw [show nextU (cho s true off metal) = .tup [.int .i64 (cho s true off metal).1, .int .i64 (cho s true off metal).2, .int .i64 0] from if_neg (of_decide_eq_false h3)]; exact .refl _
def Bnd.okR (q : Bnd) : Bool := decide (q.lo ≤ q.a) && decide (q.a ≤ q.b) && decide (q.b ≤ q.hi)
abbrev shopU (ts ks : List U) (lo hi : Int) : U := .agg [.lst .ro 3 ts, .int .i64 lo, .int .i64 hi, .lst .ro 3 ks]
theorem dat_shopU (t k : List Tri) (lo hi : Int) (n : Nat) : Dat (n + 3) (shopU (trisU t) (trisU k) lo hi) := dat_shop ⟨t, lo, hi, k⟩ n
open Vam
theorem fld107_0 : fieldOf Try.prog 107 0 = some (0, 24) := by kernel_rfl
theorem fld107_1 : fieldOf Try.prog 107 1 = some (2, 3) := by kernel_rfl
theorem fld107_2 : fieldOf Try.prog 107 2 = some (3, 3) := by kernel_rfl
theorem sh107 : shOf Try.prog 107 = .many 4 := by kernel_rfl
theorem cl107 : Program.cellsOf Try.prog 107 = 4 := by kernel_rfl
theorem ty108 : tyOf Try.prog 108 = .slice 107 := by kernel_rfl
theorem ze107 : zeroL Try.prog 107 = some ((.cons (.int .i64 0) (.cons (.int .i64 0) (.cons (.int .i64 0) (.cons (.int .i64 0) .nil)))) : V) := by kernel_rfl
theorem dat_int1 (n : Int) : ∀ u ∈ [U.int .i64 n], Dat 8 u := fun u hu => by
  simp only [List.mem_cons, List.not_mem_nil, or_false] at hu
  subst hu; exact .int _ _ _
noncomputable def b70 : Code := (Try.f70.body).getD .skip
theorem body70 : bodyOf Try.prog 70 = some (6, b70, [.cell 2 24]) := by kernel_rfl
theorem pure70 : pureFn Try.prog 70 = true := by kernel_rfl
theorem dat_ints2 (a b : Int) (k : Nat) : Dat (k + 2) (.agg [.int .i64 a, .int .i64 b]) := .agg _ _ fun c hc => by
  simp only [List.mem_cons, List.not_mem_nil, or_false] at hc
  rcases hc with rfl | rfl <;> exact .int _ _ _
theorem ret70 (hi : is 70 = false) (n : Int) : RetP Try.prog is orc 70 [.int .i64 n] (.agg [.int .i64 n, .int .i64 n]) := by
  refine ret_of body70 pure70 hi rfl rfl (dat_int1 n) (.inl (dat_ints2 _ _ _)) ?_
  refine k_seq ?_
  refine k_region ?_   -- region 0 span.go:11
  refine o_alloc rfl ze24 ?_
  refine o_nil ?_
  refine k_seq ?_
  refine k_region ?_   -- region 1 span.go:11
  refine o_move rfl ?_
  refine o_move rfl ?_
  refine o_build rfl ze24 pl24 rfl rfl ?_
  refine o_storeN rfl rfl sh24 rfl rfl rfl rfl rfl ?_
  refine o_nil ?_
  refine k_ret ?_
  exact ⟨.inr rfl, _, .cons _ _ _ _ (.cellN 2 24 _ _ _ _ rfl rfl sh24 rfl) .nil, .refl _⟩
theorem dat_one {u : U} (h : Dat 8 u) : ∀ v ∈ [u], Dat 8 v := fun v hv => by
  simp only [List.mem_cons, List.not_mem_nil, or_false] at hv
  subst hv; exact h
abbrev bndU (a b lo hi : Int) : U := .agg [.int .i64 a, .int .i64 b, .int .i64 lo, .int .i64 hi]
theorem dat_bnd (a b lo hi : Int) (k : Nat) : Dat (k + 2) (bndU a b lo hi) := .agg _ _ fun c hc => by
  simp only [List.mem_cons, List.not_mem_nil, or_false] at hc
  rcases hc with rfl | rfl | rfl | rfl <;> exact .int _ _ _
noncomputable def b78 : Code := (Try.f78.body).getD .skip
theorem body78 : bodyOf Try.prog 78 = some (26, b78, [.tmp 2]) := by kernel_rfl
theorem pure78 : pureFn Try.prog 78 = true := by kernel_rfl
theorem ret78 (hi80 : is 78 = false) (a b lo hi : Int) : RetP Try.prog is orc 78 [bndU a b lo hi] (.bool (decide (lo ≤ a) && decide (a ≤ b) && decide (b ≤ hi))) := by
  refine ret_of body78 pure78 hi80 rfl rfl (dat_one (dat_bnd _ _ _ _ _)) (.inl (.bool _ _)) ?_
  refine k_seq ?_
  refine k_region ?_   -- region 0 shop.go:24
  refine o_box rfl rfl ?_
  refine o_assign rfl ?_
  refine o_nil ?_
  refine k_seq ?_
  refine k_region ?_   -- region 1 shop.go:25
  first | refine o_faddr rfl rfl fld107_1 ?_ | refine o_faddrR rfl rfl fld107_1 ?_
  first | refine o_load1 rfl rfl rfl sh3 rfl ?_ | refine o_loadR1 rfl rfl sh3 rfl ?_
  first | refine o_faddr rfl rfl fld107_0 ?_ | refine o_faddrR rfl rfl fld107_0 ?_
  first | refine o_faddr rfl rfl fld24_0 ?_ | refine o_faddrR rfl rfl fld24_0 ?_
  first | refine o_load1 rfl rfl rfl sh3 rfl ?_ | refine o_loadR1 rfl rfl sh3 rfl ?_
  refine o_leq rfl rfl rfl ?_
  refine o_move rfl ?_
  refine o_guard rfl rfl rfl rfl (fun h1 => ?_) (fun h1 => ?_)   -- slot 9
  · first | refine o_faddr rfl rfl fld107_0 ?_ | refine o_faddrR rfl rfl fld107_0 ?_
    refine o_guard rfl rfl rfl rfl (fun _ => ?_) (fun h => by rw [h1] at h; cases h)
    first | refine o_faddr rfl rfl fld24_0 ?_ | refine o_faddrR rfl rfl fld24_0 ?_
    refine o_guard rfl rfl rfl rfl (fun _ => ?_) (fun h => by rw [h1] at h; cases h)
    first | refine o_load1 rfl rfl rfl sh3 rfl ?_ | refine o_loadR1 rfl rfl sh3 rfl ?_
    refine o_guard rfl rfl rfl rfl (fun _ => ?_) (fun h => by rw [h1] at h; cases h)
    first | refine o_faddr rfl rfl fld107_0 ?_ | refine o_faddrR rfl rfl fld107_0 ?_
    refine o_guard rfl rfl rfl rfl (fun _ => ?_) (fun h => by rw [h1] at h; cases h)
    first | refine o_faddr rfl rfl fld24_1 ?_ | refine o_faddrR rfl rfl fld24_1 ?_
    refine o_guard rfl rfl rfl rfl (fun _ => ?_) (fun h => by rw [h1] at h; cases h)
    first | refine o_load1 rfl rfl rfl sh3 rfl ?_ | refine o_loadR1 rfl rfl sh3 rfl ?_
    refine o_guard rfl rfl rfl rfl (fun _ => ?_) (fun h => by rw [h1] at h; cases h)
    refine o_leq rfl rfl rfl ?_
    refine o_pickT rfl rfl h1 ?_
    refine o_move rfl ?_
    refine o_guard rfl rfl rfl rfl (fun h2 => ?_) (fun h2 => ?_)   -- slot 18
    · first | refine o_faddr rfl rfl fld107_0 ?_ | refine o_faddrR rfl rfl fld107_0 ?_
      refine o_guard rfl rfl rfl rfl (fun _ => ?_) (fun h => by rw [h2] at h; cases h)
      first | refine o_faddr rfl rfl fld24_1 ?_ | refine o_faddrR rfl rfl fld24_1 ?_
      refine o_guard rfl rfl rfl rfl (fun _ => ?_) (fun h => by rw [h2] at h; cases h)
      first | refine o_load1 rfl rfl rfl sh3 rfl ?_ | refine o_loadR1 rfl rfl sh3 rfl ?_
      refine o_guard rfl rfl rfl rfl (fun _ => ?_) (fun h => by rw [h2] at h; cases h)
      first | refine o_faddr rfl rfl fld107_2 ?_ | refine o_faddrR rfl rfl fld107_2 ?_
      refine o_guard rfl rfl rfl rfl (fun _ => ?_) (fun h => by rw [h2] at h; cases h)
      first | refine o_load1 rfl rfl rfl sh3 rfl ?_ | refine o_loadR1 rfl rfl sh3 rfl ?_
      refine o_guard rfl rfl rfl rfl (fun _ => ?_) (fun h => by rw [h2] at h; cases h)
      refine o_leq rfl rfl rfl ?_
      refine o_pickT rfl rfl h2 ?_
      refine o_assign rfl ?_
      refine o_nil ?_
      refine k_ret ⟨.inr rfl, _, .cons _ _ _ _ (.tmp 2) .nil, ?_⟩
      rw [h1, h2]; exact .refl _
    · refine o_guard rfl rfl rfl rfl (fun h => by rw [h2] at h; cases h) (fun _ => ?_)
      refine o_guard rfl rfl rfl rfl (fun h => by rw [h2] at h; cases h) (fun _ => ?_)
      refine o_guard rfl rfl rfl rfl (fun h => by rw [h2] at h; cases h) (fun _ => ?_)
      refine o_guard rfl rfl rfl rfl (fun h => by rw [h2] at h; cases h) (fun _ => ?_)
      refine o_guard rfl rfl rfl rfl (fun h => by rw [h2] at h; cases h) (fun _ => ?_)
      refine o_pickF rfl rfl h2 ?_
      refine o_assign rfl ?_
      refine o_nil ?_
      refine k_ret ⟨.inr rfl, _, .cons _ _ _ _ (.tmp 2) .nil, ?_⟩
      rw [h1, h2]; exact .refl _
  · refine o_guard rfl rfl rfl rfl (fun h => by rw [h1] at h; cases h) (fun _ => ?_)
    refine o_guard rfl rfl rfl rfl (fun h => by rw [h1] at h; cases h) (fun _ => ?_)
    refine o_guard rfl rfl rfl rfl (fun h => by rw [h1] at h; cases h) (fun _ => ?_)
    refine o_guard rfl rfl rfl rfl (fun h => by rw [h1] at h; cases h) (fun _ => ?_)
    refine o_guard rfl rfl rfl rfl (fun h => by rw [h1] at h; cases h) (fun _ => ?_)
    refine o_guard rfl rfl rfl rfl (fun h => by rw [h1] at h; cases h) (fun _ => ?_)
    refine o_pickF rfl rfl h1 ?_
    refine o_move rfl ?_
    refine o_guard rfl rfl rfl rfl (fun h3 => by cases h3) (fun h3 => ?_)   -- slot 18
    refine o_guard rfl rfl rfl rfl (fun h => by rw [h3] at h; cases h) (fun _ => ?_)
    refine o_guard rfl rfl rfl rfl (fun h => by rw [h3] at h; cases h) (fun _ => ?_)
    refine o_guard rfl rfl rfl rfl (fun h => by rw [h3] at h; cases h) (fun _ => ?_)
    refine o_guard rfl rfl rfl rfl (fun h => by rw [h3] at h; cases h) (fun _ => ?_)
    refine o_guard rfl rfl rfl rfl (fun h => by rw [h3] at h; cases h) (fun _ => ?_)
    refine o_pickF rfl rfl h3 ?_
    refine o_assign rfl ?_
    refine o_nil ?_
    refine k_ret ⟨.inr rfl, _, .cons _ _ _ _ (.tmp 2) .nil, ?_⟩
    rw [h1]; exact .refl _
open Vam
noncomputable def b71 : Code := (Try.f71.body).getD .skip
theorem body71 : bodyOf Try.prog 71 = some (15, b71, [.tmp 2]) := by kernel_rfl
theorem pure71 : pureFn Try.prog 71 = true := by kernel_rfl
theorem ret71 (hi73 : is 71 = false) (hi80 : is 78 = false) (l : List Bnd) (hb : l.length ≤ 4096) : RetP Try.prog is orc 71 [.lst .ro 4 (bndsU l)] (.bool (l.all Bnd.okR)) := by
  refine ret_of body71 pure71 hi73 rfl rfl (dat_one (dat_bnds l .ro (fun h => by cases h) 6)) (.inl (.bool _ _)) ?_
  have hlen : (bndsU l).length = l.length := by simp
  refine k_seq ?_
  refine k_region ?_   -- region 0 shop.go:38
  refine o_assign rfl ?_
  refine o_nil ?_
  refine k_seq ?_
  refine k_seq ?_
  refine k_region ?_   -- region 1 shop.go:39
  refine o_move rfl ?_
  refine o_len rfl ty108 rfl rfl ?_
  refine o_move rfl ?_
  refine o_nil ?_
  refine k_block ?_
  -- LOOP 1
  refine k_loop (fun k s => ∃ n : Nat, k + n = l.length ∧ (l.take n).all Bnd.okR = true ∧ Holds s [(5, .lst .ro 4 (bndsU l)), (6, .int .i64 (bndsU l).length), (7, .int .i64 n)]) (fun k s hI => ?_) l.length _ ?_
  · obtain ⟨n, hk, ho, hs⟩ := hI
    rw [hs.eq]
    refine k_seq ?_
    refine k_region ?_   -- region 2 shop.go:39
    refine o_lss rfl rfl rfl ?_
    refine o_nil ?_
    refine k_seq ?_
    refine k_cond rfl (fun h1 => ?_) (fun h1 => ?_)   -- slot 8
    · have h3' : n < l.length := by
        have := h1
        simp only [hlen, decide_eq_true_eq] at this
        omega
      obtain ⟨q, hq⟩ : ∃ q, l[n]? = some q := ⟨l[n], List.getElem?_eq_getElem h3'⟩
      refine k_skip ?_
      refine k_seq ?_
      refine k_block ?_
      refine k_seq ?_
      refine k_region ?_   -- region 3 shop.go:39
      refine o_idx (u := q.u) rfl ty108 rfl rfl (Int.natCast_nonneg n) (by simp [hq]) cl107 ?_
      refine o_loadRN rfl rfl sh107 rfl ?_
      refine o_alloc rfl ze107 ?_
      refine o_storeN rfl (at_new _ _) sh107 rfl rfl rfl rfl rfl ?_
      refine o_nil ?_
      refine k_seq ?_
      refine k_region ?_   -- region 4 shop.go:40
      refine o_loadN rfl rfl (at_set _ _ _) sh107 rfl ?_
      refine o_call rfl (ret78 hi80 q.a q.b q.lo q.hi) (.lrefl _) ?_
      refine o_not rfl rfl ?_
      refine o_nil ?_
      refine k_cond rfl (fun h2 => ?_) (fun h2 => ?_)   -- slot 13
      · refine k_seq ?_
        refine k_region ?_   -- region 5 shop.go:41
        refine o_assign rfl ?_
        refine o_nil ?_
        refine k_ret ⟨.inr rfl, _, .cons _ _ _ _ (.tmp 2) .nil, ?_⟩
        have h5 : q.okR = false := (Bool.not_eq_true' _).mp h2
        rw [all_not hq h5]
        exact .refl _
      · refine k_skip ?_
        have h5 : q.okR = true := (Bool.not_eq_false' _).mp h2
        refine k_region ?_   -- region 6 shop.go:39
        refine o_add rfl rfl rfl (by unfold I64; omega) ?_
        refine o_move rfl ?_
        refine o_nil ?_
        exact ⟨k - 1, by omega, n + 1, by omega, all_take hq ho h5, .cons rfl (.cons rfl (.cons rfl (.nil rfl)))⟩
    · have h3' : n = l.length := by
        have := h1
        simp only [hlen, decide_eq_false_iff_not] at this
        omega
      refine k_exit ?_
      refine k_seq ?_
      refine k_region ?_   -- region 7 shop.go:44
      refine o_assign rfl ?_
      refine o_nil ?_
      refine k_ret ⟨.inr rfl, _, .cons _ _ _ _ (.tmp 2) .nil, ?_⟩
      have h6 : l.all Bnd.okR = true := by rw [h3', List.take_length] at ho; exact ho
      rw [h6]
      exact .refl _
  · exact ⟨0, rfl, rfl, .cons rfl (.cons rfl (.cons rfl (.nil rfl)))⟩
open Vam
theorem by107 : Program.bytesOf Try.prog 107 = 32 := by kernel_rfl
theorem cl64 : Program.cellsOf Try.prog 64 = 3 := by kernel_rfl
theorem fld27_2 : fieldOf Try.prog 27 2 = some (3, 25) := by kernel_rfl
theorem fld64_0 : fieldOf Try.prog 64 0 = some (0, 24) := by kernel_rfl
theorem fld64_1 : fieldOf Try.prog 64 1 = some (2, 3) := by kernel_rfl
theorem pl107 : plcOf Try.prog 107 = some [(0, 2), (2, 1), (3, 1)] := by kernel_rfl
theorem sh25 : shOf Try.prog 25 = .one := by kernel_rfl
theorem sh64 : shOf Try.prog 64 = .many 3 := by kernel_rfl
theorem ty25 : tyOf Try.prog 25 = .slice 64 := by kernel_rfl
theorem ze52 : zeroL Try.prog 52 = some ((.cons (.int .i64 0) (.cons (.int .i64 0) (.cons (.int .i64 0) .nil))) : V) := by kernel_rfl
theorem ze64 : zeroL Try.prog 64 = some ((.cons (.int .i64 0) (.cons (.int .i64 0) (.cons (.int .i64 0) .nil))) : V) := by kernel_rfl
theorem ap108_108 : AppT Try.prog 108 108 107 4 32 ((.cons (.int .i64 0) (.cons (.int .i64 0) (.cons (.int .i64 0) (.cons (.int .i64 0) .nil)))) : V) := ⟨ty108, ⟨_, ty108⟩, cl107, by decide, by107, ze107, rfl⟩
theorem flat2 (a b : Int) : FlatU (.agg [.int .i64 a, .int .i64 b]) := .agg _ fun c hc => by
  simp only [List.mem_cons, List.not_mem_nil, or_false] at hc
  rcases hc with rfl | rfl <;> exact .int _ _
noncomputable def b72 : Code := (Try.f72.body).getD .skip
theorem body72 : bodyOf Try.prog 72 = some (24, b72, [.tmp 2]) := by kernel_rfl
theorem pure72 : pureFn Try.prog 72 = true := by kernel_rfl
def bnds74 (l : List Tri) : List Bnd := l.flatMap fun q => [⟨q.a, q.b, (-30), 30⟩, ⟨q.c, q.c, 1, 10⟩]
theorem bnds74_len (l : List Tri) : (bnds74 l).length = 2 * l.length := by
  induction l with
  | nil => rfl
  | cons q l ih =>
    show (_ :: _ :: bnds74 l).length = _
    simp [ih]; omega
theorem bnds74_take {l : List Tri} {n : Nat} {q : Tri} (h : l[n]? = some q) : bndsU (bnds74 (l.take n)) ++ [bndU q.a q.b (-30) 30, bndU q.c q.c 1 10] = bndsU (bnds74 (l.take (n + 1))) := by
  unfold bnds74
  rw [List.take_add_one, h, List.flatMap_append]
  show _ = List.map Bnd.u (_ ++ _)
  rw [List.map_append]
  rfl
theorem ret72 (hi : is 72 = false) (h70 : is 70 = false) (l : List Tri) (hb : l.length ≤ 4096) : RetP Try.prog is orc 72 [.lst .ro 3 (trisU l)] (.lst .ro 4 (bndsU (bnds74 l))) := by
  refine ret_of body72 pure72 hi rfl rfl (dat_one (dat_tris l .ro (fun h => by cases h) 6)) (.inl (dat_bnds _ .ro (fun h => by cases h) 6)) ?_
  have hlen : (trisU l).length = l.length := by simp
  refine k_seq ?_
  refine k_region ?_
  refine o_assign rfl ?_
  refine o_nil ?_
  refine k_seq ?_
  refine k_region ?_
  refine o_assignN 4 rfl (fun _ => rfl) ?_
  refine o_nil ?_
  refine k_seq ?_
  refine k_seq ?_
  refine k_region ?_
  refine o_move rfl ?_
  refine o_len rfl ty22 rfl rfl ?_
  refine o_move rfl ?_
  refine o_nil ?_
  refine k_block ?_
  refine k_loop (fun k s => ∃ n : Nat, k + n = l.length ∧ Holds s [(6, .lst .ro 3 (trisU l)), (7, .int .i64 (trisU l).length), (8, .int .i64 n), (3, .lst .own 4 (bndsU (bnds74 (l.take n))))]) (fun k s hI => ?_) l.length _ ?_
  · obtain ⟨n, hk, hs⟩ := hI
    rw [hs.eq]
    refine k_seq ?_
    refine k_region ?_
    refine o_lss rfl rfl rfl ?_
    refine o_nil ?_
    refine k_seq ?_
    refine k_cond rfl (fun h1 => ?_) (fun h1 => ?_)
    · have h3' : n < l.length := by
        have := h1
        simp only [hlen, decide_eq_true_eq] at this
        omega
      obtain ⟨q, hq⟩ : ∃ q, l[n]? = some q := ⟨l[n], List.getElem?_eq_getElem h3'⟩
      refine k_skip ?_
      refine k_seq ?_
      refine k_block ?_
      refine k_seq ?_
      refine k_region ?_
      refine o_idx (u := q.u) rfl ty22 rfl rfl (Int.natCast_nonneg n) (by simp [hq]) cl52 ?_
      refine o_loadRN rfl rfl sh52 rfl ?_
      refine o_alloc rfl ze52 ?_
      refine o_storeN rfl (at_new _ _) sh52 rfl rfl rfl rfl rfl ?_
      refine o_nil ?_
      refine k_draw [.plain, .plain, .read true, .plain, .plain, .read true, .read false, .plain, .plain, .plain, .plain] (by kernel_rfl) (by kernel_rfl) (by kernel_rfl) ?_   -- region 5
      refine d_plain (o_move rfl (o_nil rfl)) ?_
      refine d_plain (o_faddr rfl rfl fld52_0 (o_nil rfl)) ?_
      refine d_load rfl (o_loadN rfl rfl (at_set _ _ _) sh24 rfl (o_nil rfl)) ?_
      refine d_plain (o_build rfl ze107 pl107 rfl rfl (o_nil rfl)) ?_
      refine d_plain (o_faddr rfl rfl fld52_1 (o_nil rfl)) ?_
      refine d_load rfl (o_load1 rfl rfl (at_set _ _ _) sh3 rfl (o_nil rfl)) ?_
      refine d_callR rfl (ret70 h70 q.c) (flat2 _ _) (.lrefl _) ?_
      refine d_plain (o_build rfl ze107 pl107 rfl rfl (o_nil rfl)) ?_
      refine d_plain (o_lit rfl ty108 ze107 cl107 rfl rfl rfl rfl rfl rfl rfl rfl (o_nil rfl)) ?_
      refine d_plain (o_appendS 3 rfl ap108_108 rfl rfl rfl (.inl rfl) (.inl rfl) rfl (by have := bnds74_len (l.take n); rw [List.length_take] at this; simp only [bndsU, List.length_map, this, List.length_cons, List.length_nil]; omega) (o_nil rfl)) ?_
      refine d_plain (o_assign rfl (o_nil rfl)) ?_
      refine d_nil ?_
      refine k_region ?_
      refine o_add rfl rfl rfl (by unfold I64; omega) ?_
      refine o_move rfl ?_
      refine o_nil ?_
      exact ⟨k - 1, by omega, n + 1, by omega, .cons rfl (.cons rfl (.cons rfl (.cons (congrArg (U.lst .own 4) (bnds74_take hq)) (.nil rfl))))⟩
    · have h3' : n = l.length := by
        have := h1
        simp only [hlen, decide_eq_false_iff_not] at this
        omega
      refine k_exit ?_
      refine k_seq ?_
      refine k_region ?_
      refine o_move rfl ?_
      refine o_assign rfl ?_
      refine o_nil ?_
      refine k_ret ⟨.inr rfl, _, .cons _ _ _ _ (.tmp 2) .nil, ?_⟩
      rw [h3', List.take_length]
      first | exact .refl _ | exact .ro _ _ _
  · exact ⟨0, rfl, .cons rfl (.cons rfl (.cons rfl (.cons rfl (.nil rfl))))⟩
noncomputable def b73 : Code := (Try.f73.body).getD .skip
theorem body73 : bodyOf Try.prog 73 = some (24, b73, [.tmp 2]) := by kernel_rfl
theorem pure73 : pureFn Try.prog 73 = true := by kernel_rfl
def bnds75 (l : List Tri) : List Bnd := l.flatMap fun q => [⟨q.a, q.b, (-60), 60⟩, ⟨q.c, q.c, 0, 30⟩]
theorem bnds75_len (l : List Tri) : (bnds75 l).length = 2 * l.length := by
  induction l with
  | nil => rfl
  | cons q l ih =>
    show (_ :: _ :: bnds75 l).length = _
    simp [ih]; omega
theorem bnds75_take {l : List Tri} {n : Nat} {q : Tri} (h : l[n]? = some q) : bndsU (bnds75 (l.take n)) ++ [bndU q.a q.b (-60) 60, bndU q.c q.c 0 30] = bndsU (bnds75 (l.take (n + 1))) := by
  unfold bnds75
  rw [List.take_add_one, h, List.flatMap_append]
  show _ = List.map Bnd.u (_ ++ _)
  rw [List.map_append]
  rfl
theorem ret73 (hi : is 73 = false) (h70 : is 70 = false) (l : List Tri) (hb : l.length ≤ 4096) : RetP Try.prog is orc 73 [.lst .ro 3 (trisU l)] (.lst .ro 4 (bndsU (bnds75 l))) := by
  refine ret_of body73 pure73 hi rfl rfl (dat_one (dat_tris l .ro (fun h => by cases h) 6)) (.inl (dat_bnds _ .ro (fun h => by cases h) 6)) ?_
  have hlen : (trisU l).length = l.length := by simp
  refine k_seq ?_
  refine k_region ?_
  refine o_assign rfl ?_
  refine o_nil ?_
  refine k_seq ?_
  refine k_region ?_
  refine o_assignN 4 rfl (fun _ => rfl) ?_
  refine o_nil ?_
  refine k_seq ?_
  refine k_seq ?_
  refine k_region ?_
  refine o_move rfl ?_
  refine o_len rfl ty25 rfl rfl ?_
  refine o_move rfl ?_
  refine o_nil ?_
  refine k_block ?_
  refine k_loop (fun k s => ∃ n : Nat, k + n = l.length ∧ Holds s [(6, .lst .ro 3 (trisU l)), (7, .int .i64 (trisU l).length), (8, .int .i64 n), (3, .lst .own 4 (bndsU (bnds75 (l.take n))))]) (fun k s hI => ?_) l.length _ ?_
  · obtain ⟨n, hk, hs⟩ := hI
    rw [hs.eq]
    refine k_seq ?_
    refine k_region ?_
    refine o_lss rfl rfl rfl ?_
    refine o_nil ?_
    refine k_seq ?_
    refine k_cond rfl (fun h1 => ?_) (fun h1 => ?_)
    · have h3' : n < l.length := by
        have := h1
        simp only [hlen, decide_eq_true_eq] at this
        omega
      obtain ⟨q, hq⟩ : ∃ q, l[n]? = some q := ⟨l[n], List.getElem?_eq_getElem h3'⟩
      refine k_skip ?_
      refine k_seq ?_
      refine k_block ?_
      refine k_seq ?_
      refine k_region ?_
      refine o_idx (u := q.u) rfl ty25 rfl rfl (Int.natCast_nonneg n) (by simp [hq]) cl64 ?_
      refine o_loadRN rfl rfl sh64 rfl ?_
      refine o_alloc rfl ze64 ?_
      refine o_storeN rfl (at_new _ _) sh64 rfl rfl rfl rfl rfl ?_
      refine o_nil ?_
      refine k_draw [.plain, .plain, .read true, .plain, .plain, .read true, .read false, .plain, .plain, .plain, .plain] (by kernel_rfl) (by kernel_rfl) (by kernel_rfl) ?_   -- region 5
      refine d_plain (o_move rfl (o_nil rfl)) ?_
      refine d_plain (o_faddr rfl rfl fld64_0 (o_nil rfl)) ?_
      refine d_load rfl (o_loadN rfl rfl (at_set _ _ _) sh24 rfl (o_nil rfl)) ?_
      refine d_plain (o_build rfl ze107 pl107 rfl rfl (o_nil rfl)) ?_
      refine d_plain (o_faddr rfl rfl fld64_1 (o_nil rfl)) ?_
      refine d_load rfl (o_load1 rfl rfl (at_set _ _ _) sh3 rfl (o_nil rfl)) ?_
      refine d_callR rfl (ret70 h70 q.c) (flat2 _ _) (.lrefl _) ?_
      refine d_plain (o_build rfl ze107 pl107 rfl rfl (o_nil rfl)) ?_
      refine d_plain (o_lit rfl ty108 ze107 cl107 rfl rfl rfl rfl rfl rfl rfl rfl (o_nil rfl)) ?_
      refine d_plain (o_appendS 3 rfl ap108_108 rfl rfl rfl (.inl rfl) (.inl rfl) rfl (by have := bnds75_len (l.take n); rw [List.length_take] at this; simp only [bndsU, List.length_map, this, List.length_cons, List.length_nil]; omega) (o_nil rfl)) ?_
      refine d_plain (o_assign rfl (o_nil rfl)) ?_
      refine d_nil ?_
      refine k_region ?_
      refine o_add rfl rfl rfl (by unfold I64; omega) ?_
      refine o_move rfl ?_
      refine o_nil ?_
      exact ⟨k - 1, by omega, n + 1, by omega, .cons rfl (.cons rfl (.cons rfl (.cons (congrArg (U.lst .own 4) (bnds75_take hq)) (.nil rfl))))⟩
    · have h3' : n = l.length := by
        have := h1
        simp only [hlen, decide_eq_false_iff_not] at this
        omega
      refine k_exit ?_
      refine k_seq ?_
      refine k_region ?_
      refine o_move rfl ?_
      refine o_assign rfl ?_
      refine o_nil ?_
      refine k_ret ⟨.inr rfl, _, .cons _ _ _ _ (.tmp 2) .nil, ?_⟩
      rw [h3', List.take_length]
      first | exact .refl _ | exact .ro _ _ _
  · exact ⟨0, rfl, .cons rfl (.cons rfl (.cons rfl (.cons rfl (.nil rfl))))⟩
open Vam
def bnds0 (t k : List Tri) (lo hi : Int) : List Bnd := [⟨(trisU t).length, (trisU t).length, 1, 4⟩, ⟨(trisU k).length, (trisU k).length, 0, 6⟩, ⟨lo, hi, -60, 60⟩]
theorem bnds0_ok {t k : List Tri} {lo hi : Int} (h : (bnds0 t k lo hi).all Bnd.okR = true) : t.length ≤ 4 ∧ k.length ≤ 6 := by
  unfold bnds0 Bnd.okR at h
  simp at h
  omega
def valid (t k : List Tri) (lo hi : Int) : Bool := (bnds0 t k lo hi).all Bnd.okR && (bnds74 t).all Bnd.okR && (bnds75 k).all Bnd.okR
def checkR (t k : List Tri) (lo hi : Int) : Int := if valid t k lo hi then 0 else 30
noncomputable def b53 : Code := (Try.f53.body).getD .skip
theorem body53 : bodyOf Try.prog 53 = some (32, b53, [.tmp 2]) := by kernel_rfl
theorem pure53 : pureFn Try.prog 53 = true := by kernel_rfl
theorem ret53 (h53 : is 53 = false) (h70 : is 70 = false) (h71 : is 71 = false) (h72 : is 72 = false) (h73 : is 73 = false) (h78 : is 78 = false) (t k : List Tri) (lo hi : Int) : RetP Try.prog is orc 53 [shopU (trisU t) (trisU k) lo hi] (.bool (valid t k lo hi)) := by
  refine ret_of body53 pure53 h53 rfl rfl (dat_one (dat_shopU t k lo hi 5)) (.inl (.bool _ _)) ?_
  refine k_seq ?_
  refine k_region ?_   -- region 0 shop.go:28
  refine o_box rfl rfl ?_
  refine o_assign rfl ?_
  refine o_nil ?_
  refine k_seq ?_
  refine k_draw [.plain, .read true, .read true, .read false, .plain, .plain, .read true, .read true, .read false, .plain, .plain, .read true, .plain, .plain, .plain] (by kernel_rfl) (by kernel_rfl) (by kernel_rfl) ?_   -- region 1
  first | refine d_plain (o_faddr rfl rfl fld27_0 (o_nil rfl)) ?_ | refine d_plain (o_faddrR rfl rfl fld27_0 (o_nil rfl)) ?_
  first | refine d_load rfl (o_load1 rfl rfl rfl sh22 rfl (o_nil rfl)) ?_ | refine d_load rfl (o_loadR1 rfl rfl sh22 rfl (o_nil rfl)) ?_
  refine d_load rfl (o_len rfl ty22 rfl rfl (o_nil rfl)) ?_
  refine d_callR rfl (ret70 h70 _) (flat2 _ _) (.lrefl _) ?_
  refine d_plain (o_build rfl ze107 pl107 rfl rfl (o_nil rfl)) ?_
  first | refine d_plain (o_faddr rfl rfl fld27_2 (o_nil rfl)) ?_ | refine d_plain (o_faddrR rfl rfl fld27_2 (o_nil rfl)) ?_
  first | refine d_load rfl (o_load1 rfl rfl rfl sh25 rfl (o_nil rfl)) ?_ | refine d_load rfl (o_loadR1 rfl rfl sh25 rfl (o_nil rfl)) ?_
  refine d_load rfl (o_len rfl ty25 rfl rfl (o_nil rfl)) ?_
  refine d_callR rfl (ret70 h70 _) (flat2 _ _) (.lrefl _) ?_
  refine d_plain (o_build rfl ze107 pl107 rfl rfl (o_nil rfl)) ?_
  first | refine d_plain (o_faddr rfl rfl fld27_1 (o_nil rfl)) ?_ | refine d_plain (o_faddrR rfl rfl fld27_1 (o_nil rfl)) ?_
  first | refine d_load rfl (o_loadN rfl rfl rfl sh24 rfl (o_nil rfl)) ?_ | refine d_load rfl (o_loadRN rfl rfl sh24 rfl (o_nil rfl)) ?_
  refine d_plain (o_build rfl ze107 pl107 rfl rfl (o_nil rfl)) ?_
  refine d_plain (o_lit rfl ty108 ze107 cl107 rfl rfl rfl rfl rfl rfl rfl rfl (o_nil rfl)) ?_
  refine d_plain (o_assign rfl (o_nil rfl)) ?_
  refine d_nil ?_
  refine k_seq ?_
  refine k_region ?_   -- region 2 shop.go:35
  refine o_move rfl ?_
  refine o_call rfl (ret71 h71 h78 (bnds0 t k lo hi) (by show 3 ≤ 4096; omega)) (.lcons _ _ _ _ (.ro .full 4 _) (.lrefl _)) ?_
  refine o_move rfl ?_
  refine o_guard rfl rfl rfl rfl (fun h1 => ?_) (fun h1 => ?_)   -- slot 20
  · obtain ⟨ht, hk⟩ := bnds0_ok h1
    first | refine o_faddr rfl rfl fld27_0 ?_ | refine o_faddrR rfl rfl fld27_0 ?_
    refine o_guard rfl rfl rfl rfl (fun _ => ?_) (fun h => by rw [h1] at h; cases h)
    first | refine o_load1 rfl rfl rfl sh22 rfl ?_ | refine o_loadR1 rfl rfl sh22 rfl ?_
    refine o_guard rfl rfl rfl rfl (fun _ => ?_) (fun h => by rw [h1] at h; cases h)
    refine o_call rfl (ret72 h72 h70 t (by omega)) (.lrefl _) ?_
    refine o_guard rfl rfl rfl rfl (fun _ => ?_) (fun h => by rw [h1] at h; cases h)
    refine o_call rfl (ret71 h71 h78 _ (by rw [bnds74_len]; omega)) (.lrefl _) ?_
    refine o_pickT rfl rfl h1 ?_
    refine o_move rfl ?_
    refine o_guard rfl rfl rfl rfl (fun h2 => ?_) (fun h2 => ?_)   -- slot 26
    · first | refine o_faddr rfl rfl fld27_2 ?_ | refine o_faddrR rfl rfl fld27_2 ?_
      refine o_guard rfl rfl rfl rfl (fun _ => ?_) (fun h => by rw [h2] at h; cases h)
      first | refine o_load1 rfl rfl rfl sh25 rfl ?_ | refine o_loadR1 rfl rfl sh25 rfl ?_
      refine o_guard rfl rfl rfl rfl (fun _ => ?_) (fun h => by rw [h2] at h; cases h)
      refine o_call rfl (ret73 h73 h70 k (by omega)) (.lrefl _) ?_
      refine o_guard rfl rfl rfl rfl (fun _ => ?_) (fun h => by rw [h2] at h; cases h)
      refine o_call rfl (ret71 h71 h78 _ (by rw [bnds75_len]; omega)) (.lrefl _) ?_
      refine o_pickT rfl rfl h2 ?_
      refine o_assign rfl ?_
      refine o_nil ?_
      refine k_ret ⟨.inr rfl, _, .cons _ _ _ _ (.tmp 2) .nil, ?_⟩
      rw [show valid t k lo hi = (bnds75 k).all Bnd.okR by unfold valid; rw [h1, h2]; rfl]
      exact .refl _
    · refine o_guard rfl rfl rfl rfl (fun h => by rw [h2] at h; cases h) (fun _ => ?_)
      refine o_guard rfl rfl rfl rfl (fun h => by rw [h2] at h; cases h) (fun _ => ?_)
      refine o_guard rfl rfl rfl rfl (fun h => by rw [h2] at h; cases h) (fun _ => ?_)
      refine o_pickF rfl rfl h2 ?_
      refine o_assign rfl ?_
      refine o_nil ?_
      refine k_ret ⟨.inr rfl, _, .cons _ _ _ _ (.tmp 2) .nil, ?_⟩
      rw [show valid t k lo hi = false by unfold valid; rw [h1, h2]; rfl]
      exact .refl _
  · refine o_guard rfl rfl rfl rfl (fun h => by rw [h1] at h; cases h) (fun _ => ?_)
    refine o_guard rfl rfl rfl rfl (fun h => by rw [h1] at h; cases h) (fun _ => ?_)
    refine o_guard rfl rfl rfl rfl (fun h => by rw [h1] at h; cases h) (fun _ => ?_)
    refine o_pickF rfl rfl h1 ?_
    refine o_move rfl ?_
    refine o_guard rfl rfl rfl rfl (fun h3 => by cases h3) (fun h3 => ?_)   -- slot 26
    refine o_guard rfl rfl rfl rfl (fun h => by rw [h3] at h; cases h) (fun _ => ?_)
    refine o_guard rfl rfl rfl rfl (fun h => by rw [h3] at h; cases h) (fun _ => ?_)
    refine o_guard rfl rfl rfl rfl (fun h => by rw [h3] at h; cases h) (fun _ => ?_)
    refine o_pickF rfl rfl h3 ?_
    refine o_assign rfl ?_
    refine o_nil ?_
    refine k_ret ⟨.inr rfl, _, .cons _ _ _ _ (.tmp 2) .nil, ?_⟩
    rw [show valid t k lo hi = false by unfold valid; rw [h1]; rfl]
    exact .refl _
noncomputable def b16 : Code := (Try.f16.body).getD .skip
theorem body16 : bodyOf Try.prog 16 = some (6, b16, [.tmp 2]) := by kernel_rfl
theorem pure16 : pureFn Try.prog 16 = true := by kernel_rfl
theorem ret16 (h16 : is 16 = false) (h53 : is 53 = false) (h70 : is 70 = false) (h71 : is 71 = false) (h72 : is 72 = false) (h73 : is 73 = false) (h78 : is 78 = false) (t k : List Tri) (lo hi : Int) : RetP Try.prog is orc 16 [shopU (trisU t) (trisU k) lo hi] (.int .i64 (checkR t k lo hi)) := by
  refine ret_of body16 pure16 h16 rfl rfl (dat_one (dat_shopU t k lo hi 5)) (.inl (.int _ _ _)) ?_
  refine k_seq ?_
  refine k_region ?_   -- region 0 rasp.go:10
  refine o_box rfl rfl ?_
  refine o_assign rfl ?_
  refine o_nil ?_
  refine k_seq ?_
  refine k_seq ?_
  refine k_region ?_   -- region 1 rasp.go:11
  first | refine o_loadN rfl rfl rfl sh27 rfl ?_ | refine o_loadRN rfl rfl sh27 rfl ?_
  refine o_call rfl (ret53 h53 h70 h71 h72 h73 h78 t k lo hi) (.lrefl _) ?_
  refine o_not rfl rfl ?_
  refine o_nil ?_
  refine k_cond rfl (fun h1 => ?_) (fun h1 => ?_)   -- slot 5
  · refine k_seq ?_
    refine k_region ?_   -- region 2 rasp.go:12
    refine o_assign rfl ?_
    refine o_nil ?_
    refine k_ret ⟨.inr rfl, _, .cons _ _ _ _ (.tmp 2) .nil, ?_⟩
    have h2 : valid t k lo hi = false := (Bool.not_eq_true' _).mp h1
    rw [show checkR t k lo hi = 30 by unfold checkR; rw [h2]; rfl]
    exact .refl _
  · refine k_skip ?_
    refine k_seq ?_
    refine k_region ?_   -- region 3 rasp.go:14
    refine o_assign rfl ?_
    refine o_nil ?_
    refine k_ret ⟨.inr rfl, _, .cons _ _ _ _ (.tmp 2) .nil, ?_⟩
    have h2 : valid t k lo hi = true := (Bool.not_eq_false' _).mp h1
    rw [show checkR t k lo hi = 0 by unfold checkR; rw [h2]; rfl]
    exact .refl _
theorem ty28 : tyOf Try.prog 28 = .array 2 3 := by kernel_rfl
theorem valid_ok {s : Shop} (h : valid s.tools s.keys s.flo s.fhi = true) : SOk s := by
  unfold valid at h
  rw [Bool.and_eq_true, Bool.and_eq_true] at h
  obtain ⟨⟨h1, h2⟩, h3⟩ := h
  unfold bnds0 Bnd.okR at h1
  unfold bnds74 at h2
  unfold bnds75 at h3
  rw [List.all_flatMap, List.all_eq_true] at h2 h3
  simp at h1
  refine ⟨by omega, by omega, by omega, fun t ht => ?_, fun t ht => ?_⟩
  · have := h2 t ht
    simp [Bnd.okR] at this; omega
  · have := h3 t ht
    simp [Bnd.okR] at this; omega
theorem ok_valid {s : Shop} (h : SOk s) : valid s.tools s.keys s.flo s.fhi = true := by
  unfold valid
  rw [Bool.and_eq_true, Bool.and_eq_true]
  have q1 := h.nt; have q2 := h.fine; have q3 := h.nk
  refine ⟨⟨?_, ?_⟩, ?_⟩
  · unfold bnds0 Bnd.okR
    simp; omega
  · unfold bnds74
    rw [List.all_flatMap, List.all_eq_true]
    intro t ht
    have := h.tools t ht
    simp [Bnd.okR]; omega
  · unfold bnds75
    rw [List.all_flatMap, List.all_eq_true]
    intro t ht
    have := h.keys t ht
    simp [Bnd.okR]; omega
theorem chk (hi : Off is) (s : Shop) : RetP Try.prog is orc 16 [s.u] (.int .i64 (checkR s.tools s.keys s.flo s.fhi)) := ret16 (hi 16 (by decide)) (hi 53 (by decide)) (hi 70 (by decide)) (hi 71 (by decide)) (hi 72 (by decide)) (hi 73 (by decide)) (hi 78 (by decide)) _ _ _ _
theorem chk_ok {s : Shop} (h : SOk s) : checkR s.tools s.keys s.flo s.fhi = 0 := by unfold checkR; rw [ok_valid h]; rfl
theorem ok_chk {s : Shop} (h : checkR s.tools s.keys s.flo s.fhi = 0) : SOk s := valid_ok (by
  unfold checkR at h
  split at h
  · assumption
  · cases h)
theorem tmod_neg_lt {a m : Int} (hm : 0 < m) : -m < a.tmod m ∧ a.tmod m < m := by
  have h1 := Int.tmod_lt_of_pos a hm
  have h2 : -(m) < a.tmod m := by
    have := Int.tmod_lt_of_pos (-a) hm
    rw [Int.neg_tmod] at this
    omega
  exact ⟨h2, h1⟩
theorem turn_neg {n m : Int} (hm : 0 < m) (h : n.tmod m < 0) : n.tmod m + m = n % m := by
  have p1 := Int.emod_nonneg n (show m ≠ 0 by omega)
  have p2 := Int.emod_lt_of_pos n hm
  have p3 := @Int.emod_eq_tmod n m
  split at p3 <;> omega
theorem turn_pos {n m : Int} (hm : 0 < m) (h : 0 ≤ n.tmod m) : n.tmod m = n % m := by
  have p1 := Int.emod_nonneg n (show m ≠ 0 by omega)
  have p2 := Int.emod_lt_of_pos n hm
  have p3 := @Int.emod_eq_tmod n m
  split at p3 <;> omega
def drawI (a b n : Int) : Int := if b ≤ a then a else a + n % (b - a + 1)
theorem draw_b {a b : Int} (n : Int) (h : a ≤ b) : a ≤ drawI a b n ∧ drawI a b n ≤ b := by
  unfold drawI
  split
  · omega
  · have p1 := Int.emod_nonneg n (show b - a + 1 ≠ 0 by omega)
    have p2 := Int.emod_lt_of_pos n (show 0 < b - a + 1 by omega)
    omega
noncomputable def b34 : Code := (Try.f34.body).getD .skip
theorem body34 : bodyOf Try.prog 34 = some (15, b34, [.tmp 6]) := by kernel_rfl
theorem pure34 : pureFn Try.prog 34 = true := by kernel_rfl
set_option maxHeartbeats 4000000 in
theorem ret34 (hi : Off is) (n lo up : Int) : RetP Try.prog is orc 34 [.int .i64 n, .int .i64 lo, .int .i64 up] (.bool (decide (lo ≤ n) && decide (n ≤ up))) := by
  refine ret_of body34 pure34 (hi 34 (by decide)) rfl rfl (dat_l3 (.int _ _ _) (.int _ _ _) (.int _ _ _)) (.inl (.bool _ _)) ?_
  refine k_seq ?_
  refine k_region ?_   -- region 0 base.go:9
  refine o_assign rfl ?_
  refine o_nil ?_
  refine k_seq ?_
  refine k_region ?_   -- region 1 base.go:9
  refine o_move rfl ?_
  refine o_move rfl ?_
  refine o_leq rfl rfl rfl ?_
  refine o_move rfl ?_
  refine o_guard rfl rfl rfl rfl (fun h1 => ?_) (fun h1 => ?_)   -- slot 10
  · refine o_move rfl ?_
    refine o_guard rfl rfl rfl rfl (fun _ => ?_) (fun h => by rw [h1] at h; cases h)
    refine o_move rfl ?_
    refine o_guard rfl rfl rfl rfl (fun _ => ?_) (fun h => by rw [h1] at h; cases h)
    refine o_leq rfl rfl rfl ?_
    refine o_pickT rfl rfl h1 ?_
    refine o_assign rfl ?_
    refine o_nil ?_
    refine k_ret ?_
    refine ⟨.inr rfl, _, .cons _ _ _ _ (.tmp 6) .nil, ?_⟩
    rw [h1]; exact .refl _
  · refine o_guard rfl rfl rfl rfl (fun h => by rw [h1] at h; cases h) (fun _ => ?_)
    refine o_guard rfl rfl rfl rfl (fun h => by rw [h1] at h; cases h) (fun _ => ?_)
    refine o_pickF rfl rfl h1 ?_
    refine o_assign rfl ?_
    refine o_nil ?_
    refine k_ret ?_
    refine ⟨.inr rfl, _, .cons _ _ _ _ (.tmp 6) .nil, ?_⟩
    rw [h1]; exact .refl _
noncomputable def b54 : Code := (Try.f54.body).getD .skip
theorem body54 : bodyOf Try.prog 54 = some (24, b54, [.tmp 6]) := by kernel_rfl
theorem pure54 : pureFn Try.prog 54 = true := by kernel_rfl
set_option maxHeartbeats 4000000 in
theorem ret54 (hi : Off is) (a b lo up : Int) : RetP Try.prog is orc 54 [spanU a b, .int .i64 lo, .int .i64 up] (.bool (decide (lo ≤ a) && (decide (a ≤ b) && decide (b ≤ up)))) := by
  refine ret_of body54 pure54 (hi 54 (by decide)) rfl rfl (dat_l3 (dat_span _ _ _) (.int _ _ _) (.int _ _ _)) (.inl (.bool _ _)) ?_
  refine k_seq ?_
  refine k_region ?_   -- region 0 base.go:52
  refine o_box rfl rfl ?_
  refine o_assign rfl ?_
  refine o_nil ?_
  refine k_seq ?_
  refine k_region ?_   -- region 1 base.go:53
  refine o_move rfl ?_
  first | refine o_faddr rfl rfl fld24_0 ?_ | refine o_faddrR rfl rfl fld24_0 ?_
  first | refine o_load1 rfl rfl rfl sh3 rfl ?_ | refine o_loadR1 rfl rfl sh3 rfl ?_
  refine o_leq rfl rfl rfl ?_
  refine o_move rfl ?_
  refine o_guard rfl rfl rfl rfl (fun h1 => ?_) (fun h1 => ?_)   -- slot 11
  · first | refine o_faddr rfl rfl fld24_0 ?_ | refine o_faddrR rfl rfl fld24_0 ?_
    refine o_guard rfl rfl rfl rfl (fun _ => ?_) (fun h => by rw [h1] at h; cases h)
    first | refine o_load1 rfl rfl rfl sh3 rfl ?_ | refine o_loadR1 rfl rfl sh3 rfl ?_
    refine o_guard rfl rfl rfl rfl (fun _ => ?_) (fun h => by rw [h1] at h; cases h)
    first | refine o_faddr rfl rfl fld24_1 ?_ | refine o_faddrR rfl rfl fld24_1 ?_
    refine o_guard rfl rfl rfl rfl (fun _ => ?_) (fun h => by rw [h1] at h; cases h)
    first | refine o_load1 rfl rfl rfl sh3 rfl ?_ | refine o_loadR1 rfl rfl sh3 rfl ?_
    refine o_guard rfl rfl rfl rfl (fun _ => ?_) (fun h => by rw [h1] at h; cases h)
    refine o_leq rfl rfl rfl ?_
    refine o_pickT rfl rfl h1 ?_
    refine o_move rfl ?_
    refine o_guard rfl rfl rfl rfl (fun h2 => ?_) (fun h2 => ?_)   -- slot 18
    · first | refine o_faddr rfl rfl fld24_1 ?_ | refine o_faddrR rfl rfl fld24_1 ?_
      refine o_guard rfl rfl rfl rfl (fun _ => ?_) (fun h => by rw [h2] at h; cases h)
      first | refine o_load1 rfl rfl rfl sh3 rfl ?_ | refine o_loadR1 rfl rfl sh3 rfl ?_
      refine o_guard rfl rfl rfl rfl (fun _ => ?_) (fun h => by rw [h2] at h; cases h)
      refine o_move rfl ?_
      refine o_guard rfl rfl rfl rfl (fun _ => ?_) (fun h => by rw [h2] at h; cases h)
      refine o_leq rfl rfl rfl ?_
      refine o_pickT rfl rfl h2 ?_
      refine o_assign rfl ?_
      refine o_nil ?_
      refine k_ret ?_
      refine ⟨.inr rfl, _, .cons _ _ _ _ (.tmp 6) .nil, ?_⟩
      rw [h1, h2]; exact .refl _
    · refine o_guard rfl rfl rfl rfl (fun h => by rw [h2] at h; cases h) (fun _ => ?_)
      refine o_guard rfl rfl rfl rfl (fun h => by rw [h2] at h; cases h) (fun _ => ?_)
      refine o_guard rfl rfl rfl rfl (fun h => by rw [h2] at h; cases h) (fun _ => ?_)
      refine o_pickF rfl rfl h2 ?_
      refine o_assign rfl ?_
      refine o_nil ?_
      refine k_ret ?_
      refine ⟨.inr rfl, _, .cons _ _ _ _ (.tmp 6) .nil, ?_⟩
      rw [h1, h2]; exact .refl _
  · refine o_guard rfl rfl rfl rfl (fun h => by rw [h1] at h; cases h) (fun _ => ?_)
    refine o_guard rfl rfl rfl rfl (fun h => by rw [h1] at h; cases h) (fun _ => ?_)
    refine o_guard rfl rfl rfl rfl (fun h => by rw [h1] at h; cases h) (fun _ => ?_)
    refine o_guard rfl rfl rfl rfl (fun h => by rw [h1] at h; cases h) (fun _ => ?_)
    refine o_pickF rfl rfl h1 ?_
    refine o_move rfl ?_
    refine o_guard rfl rfl rfl rfl (fun h => by cases h) (fun _ => ?_)
    refine o_guard rfl rfl rfl rfl (fun h => by cases h) (fun _ => ?_)
    refine o_guard rfl rfl rfl rfl (fun h => by cases h) (fun _ => ?_)
    refine o_guard rfl rfl rfl rfl (fun h => by cases h) (fun _ => ?_)
    refine o_pickF rfl rfl rfl ?_
    refine o_assign rfl ?_
    refine o_nil ?_
    refine k_ret ?_
    refine ⟨.inr rfl, _, .cons _ _ _ _ (.tmp 6) .nil, ?_⟩
    rw [h1]; exact .refl _
noncomputable def b40 : Code := (Try.f40.body).getD .skip
theorem body40 : bodyOf Try.prog 40 = some (17, b40, [.tmp 4]) := by kernel_rfl
theorem pure40 : pureFn Try.prog 40 = true := by kernel_rfl
set_option maxHeartbeats 4000000 in
theorem ret40 (hi : Off is) (n m : Int) (hm : 0 < m) (hb : m ≤ 4611686018427387904) : RetP Try.prog is orc 40 [.int .i64 n, .int .i64 m] (.int .i64 (n % m)) := by
  refine ret_of body40 pure40 (hi 40 (by decide)) rfl rfl (dat_l2 (.int _ _ _) (.int _ _ _)) (.inl (.int _ _ _)) ?_
  refine k_seq ?_
  refine k_region ?_   -- region 0 base.go:12
  refine o_assign rfl ?_
  refine o_nil ?_
  refine k_seq ?_
  refine k_seq ?_
  refine k_region ?_   -- region 1 base.go:13
  refine o_move rfl ?_
  refine o_lss rfl rfl rfl ?_
  refine o_nil ?_
  refine k_cond rfl (fun h1 => ?_) (fun h1 => ?_)   -- slot 7
  · refine k_seq ?_
    refine k_region ?_   -- region 2 base.go:14
    refine o_assign rfl ?_
    refine o_nil ?_
    refine k_ret ?_
    refine ⟨.inr rfl, _, .cons _ _ _ _ (.tmp 4) .nil, ?_⟩
    exact absurd (of_decide_eq_true h1) (by omega)
  · refine k_skip ?_
    refine k_seq ?_
    refine k_region ?_   -- region 3 base.go:16
    refine o_move rfl ?_
    refine o_move rfl ?_
    refine o_rem rfl rfl rfl (by omega) ?_
    refine o_assign rfl ?_
    refine o_nil ?_
    refine k_seq ?_
    refine k_seq ?_
    refine k_region ?_   -- region 4 base.go:17
    refine o_move rfl ?_
    refine o_lss rfl rfl rfl ?_
    refine o_nil ?_
    refine k_cond rfl (fun h2 => ?_) (fun h2 => ?_)   -- slot 12
    · refine k_region ?_   -- region 5 base.go:18
      refine o_move rfl ?_
      refine o_move rfl ?_
      refine o_add rfl rfl rfl (by have := tmod_neg_lt (a := n) hm; unfold I64; omega) ?_
      refine o_assign rfl ?_
      refine o_nil ?_
      refine k_seq ?_
      refine k_region ?_   -- region 6 base.go:20
      refine o_move rfl ?_
      refine o_assign rfl ?_
      refine o_nil ?_
      refine k_ret ?_
      refine ⟨.inr rfl, _, .cons _ _ _ _ (.tmp 4) .nil, ?_⟩
      rw [show n.tmod m + m = n % m from turn_neg hm (of_decide_eq_true h2)]; exact .refl _
    · refine k_skip ?_
      refine k_seq ?_
      refine k_region ?_   -- region 6 base.go:20
      refine o_move rfl ?_
      refine o_assign rfl ?_
      refine o_nil ?_
      refine k_ret ?_
      refine ⟨.inr rfl, _, .cons _ _ _ _ (.tmp 4) .nil, ?_⟩
      rw [show n.tmod m = n % m from turn_pos hm (by have := of_decide_eq_false h2; omega)]; exact .refl _
noncomputable def b36 : Code := (Try.f36.body).getD .skip
theorem body36 : bodyOf Try.prog 36 = some (34, b36, [.tmp 4]) := by kernel_rfl
theorem pure36 : pureFn Try.prog 36 = true := by kernel_rfl
set_option maxHeartbeats 4000000 in
theorem ret36 (hi : Off is) (a b n : Int) (hb : -1000 ≤ a ∧ b ≤ 1000) : RetP Try.prog is orc 36 [spanU a b, .int .i64 n] (.int .i64 (drawI a b n)) := by
  refine ret_of body36 pure36 (hi 36 (by decide)) rfl rfl (dat_l2 (dat_span _ _ _) (.int _ _ _)) (.inl (.int _ _ _)) ?_
  refine k_seq ?_
  refine k_region ?_   -- region 0 base.go:151
  refine o_box rfl rfl ?_
  refine o_assign rfl ?_
  refine o_nil ?_
  refine k_seq ?_
  refine k_seq ?_
  refine k_region ?_   -- region 1 base.go:152
  first | refine o_faddr rfl rfl fld24_1 ?_ | refine o_faddrR rfl rfl fld24_1 ?_
  first | refine o_load1 rfl rfl rfl sh3 rfl ?_ | refine o_loadR1 rfl rfl sh3 rfl ?_
  first | refine o_faddr rfl rfl fld24_0 ?_ | refine o_faddrR rfl rfl fld24_0 ?_
  first | refine o_load1 rfl rfl rfl sh3 rfl ?_ | refine o_loadR1 rfl rfl sh3 rfl ?_
  refine o_leq rfl rfl rfl ?_
  refine o_nil ?_
  refine k_cond rfl (fun h1 => ?_) (fun h1 => ?_)   -- slot 10
  · refine k_seq ?_
    refine k_region ?_   -- region 2 base.go:153
    first | refine o_faddr rfl rfl fld24_0 ?_ | refine o_faddrR rfl rfl fld24_0 ?_
    first | refine o_load1 rfl rfl rfl sh3 rfl ?_ | refine o_loadR1 rfl rfl sh3 rfl ?_
    refine o_assign rfl ?_
    refine o_nil ?_
    refine k_ret ?_
    refine ⟨.inr rfl, _, .cons _ _ _ _ (.tmp 4) .nil, ?_⟩
    rw [show drawI a b n = a from if_pos (of_decide_eq_true h1)]; exact .refl _
  · have hab : ¬ b ≤ a := of_decide_eq_false h1
    have p1 := Int.emod_nonneg n (show b - a + 1 ≠ 0 by omega)
    have p2 := Int.emod_lt_of_pos n (show 0 < b - a + 1 by omega)
    refine k_skip ?_
    refine k_seq ?_
    refine k_region ?_   -- region 3 base.go:155
    first | refine o_faddr rfl rfl fld24_1 ?_ | refine o_faddrR rfl rfl fld24_1 ?_
    first | refine o_load1 rfl rfl rfl sh3 rfl ?_ | refine o_loadR1 rfl rfl sh3 rfl ?_
    first | refine o_faddr rfl rfl fld24_0 ?_ | refine o_faddrR rfl rfl fld24_0 ?_
    first | refine o_load1 rfl rfl rfl sh3 rfl ?_ | refine o_loadR1 rfl rfl sh3 rfl ?_
    refine o_sub rfl rfl rfl (by unfold I64; omega) ?_
    refine o_add rfl rfl rfl (by unfold I64; omega) ?_
    refine o_assign rfl ?_
    refine o_nil ?_
    refine k_seq ?_
    refine k_seq ?_
    refine k_region ?_   -- region 4 base.go:156
    refine o_move rfl ?_
    refine o_lss rfl rfl rfl ?_
    refine o_nil ?_
    refine k_cond rfl (fun h2 => ?_) (fun h2 => ?_)   -- slot 20
    · refine k_seq ?_
      refine k_region ?_   -- region 5 base.go:158
      refine o_move rfl ?_
      first | refine o_faddr rfl rfl fld24_0 ?_ | refine o_faddrR rfl rfl fld24_0 ?_
      first | refine o_load1 rfl rfl rfl sh3 rfl ?_ | refine o_loadR1 rfl rfl sh3 rfl ?_
      refine o_max rfl rfl rfl ?_
      first | refine o_faddr rfl rfl fld24_1 ?_ | refine o_faddrR rfl rfl fld24_1 ?_
      first | refine o_load1 rfl rfl rfl sh3 rfl ?_ | refine o_loadR1 rfl rfl sh3 rfl ?_
      refine o_min rfl rfl rfl ?_
      refine o_assign rfl ?_
      refine o_nil ?_
      refine k_ret ?_
      refine ⟨.inr rfl, _, .cons _ _ _ _ (.tmp 4) .nil, ?_⟩
      exact absurd (show b - a + 1 < 1 from of_decide_eq_true h2) (by have := show ¬ b ≤ a from of_decide_eq_false h1; omega)
    · refine k_skip ?_
      refine k_seq ?_
      refine k_draw [.plain, .read true, .plain, .plain, .read false, .plain, .plain] (by kernel_rfl) (by kernel_rfl) (by kernel_rfl) ?_   -- region 6
      first | refine d_plain (o_faddr rfl rfl fld24_0 (o_nil rfl)) ?_ | refine d_plain (o_faddrR rfl rfl fld24_0 (o_nil rfl)) ?_
      first | refine d_load rfl (o_load1 rfl rfl rfl sh3 rfl (o_nil rfl)) ?_ | refine d_load rfl (o_loadR1 rfl rfl sh3 rfl (o_nil rfl)) ?_
      refine d_plain (o_move rfl (o_nil rfl)) ?_
      refine d_plain (o_move rfl (o_nil rfl)) ?_
      refine d_callR rfl (ret40 hi n (b - a + 1) (by omega) (by omega)) (.int _ _) (.lrefl _) ?_
      refine d_plain (o_add rfl rfl rfl (by unfold I64; omega) (o_nil rfl)) ?_
      refine d_plain (o_assign rfl (o_nil rfl)) ?_
      refine d_nil ?_
      refine k_ret ?_
      refine ⟨.inr rfl, _, .cons _ _ _ _ (.tmp 4) .nil, ?_⟩
      rw [show drawI a b n = a + n % (b - a + 1) from if_neg (of_decide_eq_false h1)]; exact .refl _
noncomputable def b33 : Code := (Try.f33.body).getD .skip
theorem body33 : bodyOf Try.prog 33 = some (11, b33, [.tmp 2, .tmp 3]) := by kernel_rfl
theorem pure33 : pureFn Try.prog 33 = true := by kernel_rfl
set_option maxHeartbeats 4000000 in
theorem ret33 (hi : Off is) (a b : Int) : RetP Try.prog is orc 33 [.agg [.int .i64 a, .int .i64 b]] (.tup [.int .i64 (a % 121 - 60), .int .i64 (b % 31)]) := by
  refine ret_of body33 pure33 (hi 33 (by decide)) rfl rfl (dat_l1 (dat_span _ _ _)) (.inr ⟨_, rfl, dat_l2 (.int _ _ _) (.int _ _ _)⟩) ?_
  have p1 := Int.emod_nonneg a (show (121 : Int) ≠ 0 by omega)
  have p2 := Int.emod_lt_of_pos a (show (0 : Int) < 121 by omega)
  refine k_seq ?_
  refine k_region ?_   -- region 0 outright.go:52
  refine o_box rfl rfl ?_
  refine o_assign rfl ?_
  refine o_assign rfl ?_
  refine o_nil ?_
  refine k_seq ?_
  refine k_draw [.plain, .read true, .read false, .plain, .plain, .read true, .plain, .plain, .plain] (by kernel_rfl) (by kernel_rfl) (by kernel_rfl) ?_   -- region 1
  first | refine d_plain (o_idxA rfl ty28 rfl rfl (by omega) (by omega) cl3 (o_nil rfl)) ?_ | refine d_plain (o_idxE rfl ty28 rfl rfl (by omega) (by omega) cl3 (o_nil rfl)) ?_
  first | refine d_load rfl (o_load1 rfl rfl rfl sh3 rfl (o_nil rfl)) ?_ | refine d_load rfl (o_loadR1 rfl rfl sh3 rfl (o_nil rfl)) ?_
  refine d_callR rfl (ret40 hi a 121 (by omega) (by omega)) (.int _ _) (.lrefl _) ?_
  refine d_plain (o_sub rfl rfl rfl (by unfold I64; omega) (o_nil rfl)) ?_
  first | refine d_plain (o_idxA rfl ty28 rfl rfl (by omega) (by omega) cl3 (o_nil rfl)) ?_ | refine d_plain (o_idxE rfl ty28 rfl rfl (by omega) (by omega) cl3 (o_nil rfl)) ?_
  first | refine d_load rfl (o_load1 rfl rfl rfl sh3 rfl (o_nil rfl)) ?_ | refine d_load rfl (o_loadR1 rfl rfl sh3 rfl (o_nil rfl)) ?_
  refine d_plain (o_call rfl (ret40 hi b 31 (by omega) (by omega)) (.lrefl _) (o_nil rfl)) ?_
  refine d_plain (o_assign rfl (o_nil rfl)) ?_
  refine d_plain (o_assign rfl (o_nil rfl)) ?_
  refine d_nil ?_
  refine k_ret ?_
  refine ⟨.inr rfl, _, .cons _ _ _ _ (.tmp 2) (.cons _ _ _ _ (.tmp 3) .nil), ?_⟩
  exact .refl _
noncomputable def b32 : Code := (Try.f32.body).getD .skip
theorem body32 : bodyOf Try.prog 32 = some (79, b32, [.tmp 2]) := by kernel_rfl
theorem pure32 : pureFn Try.prog 32 = true := by kernel_rfl
set_option maxHeartbeats 4000000 in
theorem ret32 (hi : Off is) {s : Shop} (hk : SOk s) : RetP Try.prog is orc 32 [s.u] (.bool true) := by
  refine ret_of body32 pure32 (hi 32 (by decide)) rfl rfl (dat_l1 (dat_shop s 5)) (.inl (.bool _ _)) ?_
  have w1 := hk.nt; have w3 := hk.nk
  have g9 : decide (checkR s.tools s.keys s.flo s.fhi = 0) = true := decide_eq_true (chk_ok hk)
  have g15 : (decide (1 ≤ ((trisU s.tools).length : Int)) && decide (((trisU s.tools).length : Int) ≤ 4)) = true := by have := hk.nt; simp; omega
  have g20 : (decide (-60 ≤ s.flo) && (decide (s.flo ≤ s.fhi) && decide (s.fhi ≤ 60))) = true := by have := hk.fine; simp; omega
  have g25 : decide (((trisU s.keys).length : Int) ≤ 6) = true := by have := hk.nk; simp; omega
  refine k_seq ?_
  refine k_region ?_   -- region 0 outright.go:40
  refine o_box rfl rfl ?_
  refine o_assign rfl ?_
  refine o_nil ?_
  refine k_seq ?_
  refine k_region ?_   -- region 1 outright.go:41
  first | refine o_loadN rfl rfl rfl sh27 rfl ?_ | refine o_loadRN rfl rfl sh27 rfl ?_
  refine o_call rfl (chk hi s) (.lrefl _) ?_
  refine o_eql rfl rfl rfl ?_
  refine o_move rfl ?_
  refine o_guard rfl rfl rfl rfl (fun _ => ?_) (fun h => absurd (h.symm.trans g9) (by decide))
  first | refine o_faddr rfl rfl fld27_0 ?_ | refine o_faddrR rfl rfl fld27_0 ?_
  refine o_guard rfl rfl rfl rfl (fun _ => ?_) (fun h => absurd (h.symm.trans g9) (by decide))
  first | refine o_load1 rfl rfl rfl sh22 rfl ?_ | refine o_loadR1 rfl rfl sh22 rfl ?_
  refine o_guard rfl rfl rfl rfl (fun _ => ?_) (fun h => absurd (h.symm.trans g9) (by decide))
  refine o_len rfl ty22 rfl rfl ?_
  refine o_guard rfl rfl rfl rfl (fun _ => ?_) (fun h => absurd (h.symm.trans g9) (by decide))
  refine o_call rfl (ret34 hi _ _ _) (.lrefl _) ?_
  refine o_pickT rfl rfl g9 ?_
  refine o_move rfl ?_
  refine o_guard rfl rfl rfl rfl (fun _ => ?_) (fun h => absurd (h.symm.trans g15) (by decide))
  first | refine o_faddr rfl rfl fld27_1 ?_ | refine o_faddrR rfl rfl fld27_1 ?_
  refine o_guard rfl rfl rfl rfl (fun _ => ?_) (fun h => absurd (h.symm.trans g15) (by decide))
  first | refine o_loadN rfl rfl rfl sh24 rfl ?_ | refine o_loadRN rfl rfl sh24 rfl ?_
  refine o_guard rfl rfl rfl rfl (fun _ => ?_) (fun h => absurd (h.symm.trans g15) (by decide))
  refine o_call rfl (ret54 hi _ _ _ _) (.lrefl _) ?_
  refine o_pickT rfl rfl g15 ?_
  refine o_move rfl ?_
  refine o_guard rfl rfl rfl rfl (fun _ => ?_) (fun h => absurd (h.symm.trans g20) (by decide))
  first | refine o_faddr rfl rfl fld27_2 ?_ | refine o_faddrR rfl rfl fld27_2 ?_
  refine o_guard rfl rfl rfl rfl (fun _ => ?_) (fun h => absurd (h.symm.trans g20) (by decide))
  first | refine o_load1 rfl rfl rfl sh25 rfl ?_ | refine o_loadR1 rfl rfl sh25 rfl ?_
  refine o_guard rfl rfl rfl rfl (fun _ => ?_) (fun h => absurd (h.symm.trans g20) (by decide))
  refine o_len rfl ty25 rfl rfl ?_
  refine o_guard rfl rfl rfl rfl (fun _ => ?_) (fun h => absurd (h.symm.trans g20) (by decide))
  refine o_leq rfl rfl rfl ?_
  refine o_pickT rfl rfl g20 ?_
  refine o_assign rfl ?_
  refine o_nil ?_
  refine k_seq ?_
  refine k_seq ?_
  refine k_region ?_   -- region 2 outright.go:42
  refine o_assign rfl ?_
  refine o_nil ?_
  refine k_block ?_
  -- LOOP 1
  refine k_loop (fun k st => ∃ n : Nat, k + n = s.tools.length ∧ st.st[0]? = some (.box s.cs) ∧ Holds st [(1, .box 0 0), (3, .bool true), (4, .int .i64 n)]) (fun k st hI => ?_) s.tools.length _ ?_
  · obtain ⟨n, hk0, hst, hs⟩ := hI
    rw [hs.eq]
    refine k_seq ?_
    refine k_seq ?_
    refine k_region ?_   -- region 3 outright.go:42
    refine o_move rfl ?_
    refine o_move rfl ?_
    refine o_guard rfl rfl rfl rfl (fun _ => ?_) (fun h => absurd (h.symm.trans rfl) (by decide))
    refine o_move rfl ?_
    refine o_guard rfl rfl rfl rfl (fun _ => ?_) (fun h => absurd (h.symm.trans rfl) (by decide))
    first | refine o_faddr rfl rfl fld27_0 ?_ | refine o_faddrR rfl rfl fld27_0 ?_
    refine o_guard rfl rfl rfl rfl (fun _ => ?_) (fun h => absurd (h.symm.trans rfl) (by decide))
    first | refine o_load1 rfl rfl rfl sh22 rfl ?_ | refine o_load1 rfl rfl (at_set _ _ _) sh22 rfl ?_ | refine o_load1 rfl rfl (at_new _ _) sh22 rfl ?_ | refine o_load1 rfl rfl (at_old2 hst) sh22 rfl ?_ | refine o_load1 rfl rfl (at_old hst) sh22 rfl ?_ | refine o_load1 rfl rfl hst sh22 rfl ?_ | refine o_loadR1 rfl rfl sh22 rfl ?_
    refine o_guard rfl rfl rfl rfl (fun _ => ?_) (fun h => absurd (h.symm.trans rfl) (by decide))
    refine o_len rfl ty22 rfl rfl ?_
    refine o_guard rfl rfl rfl rfl (fun _ => ?_) (fun h => absurd (h.symm.trans rfl) (by decide))
    refine o_lss rfl rfl rfl ?_
    refine o_pickT rfl rfl rfl ?_
    refine o_nil ?_
    refine k_cond rfl (fun h1 => ?_) (fun h1 => ?_)   -- slot 33
    · have h3' : n < s.tools.length := by
        have := of_decide_eq_true h1
        simp at this; omega
      obtain ⟨q, hq⟩ : ∃ q, s.tools[n]? = some q := ⟨s.tools[n], List.getElem?_eq_getElem h3'⟩
      have hm := hk.tools q (List.mem_of_getElem? hq)
      have g43 : (decide (-30 ≤ q.a) && (decide (q.a ≤ q.b) && decide (q.b ≤ 30))) = true := by simp; omega
      have g50 : (decide (1 ≤ q.c) && decide (q.c ≤ 10)) = true := by simp; omega
      refine k_skip ?_
      refine k_seq ?_
      refine k_block ?_
      refine k_region ?_   -- region 5 outright.go:43
      first | refine o_faddr rfl rfl fld27_0 ?_ | refine o_faddrR rfl rfl fld27_0 ?_
      first | refine o_load1 rfl rfl rfl sh22 rfl ?_ | refine o_load1 rfl rfl (at_set _ _ _) sh22 rfl ?_ | refine o_load1 rfl rfl (at_new _ _) sh22 rfl ?_ | refine o_load1 rfl rfl (at_old2 hst) sh22 rfl ?_ | refine o_load1 rfl rfl (at_old hst) sh22 rfl ?_ | refine o_load1 rfl rfl hst sh22 rfl ?_ | refine o_loadR1 rfl rfl sh22 rfl ?_
      refine o_move rfl ?_
      refine o_idx (u := q.u) rfl ty22 rfl rfl (Int.natCast_nonneg n) (by simp [hq]) cl52 ?_
      first | refine o_faddr rfl rfl fld52_0 ?_ | refine o_faddrR rfl rfl fld52_0 ?_
      first | refine o_loadN rfl rfl rfl sh24 rfl ?_ | refine o_loadN rfl rfl (at_set _ _ _) sh24 rfl ?_ | refine o_loadN rfl rfl (at_new _ _) sh24 rfl ?_ | refine o_loadN rfl rfl (at_old2 hst) sh24 rfl ?_ | refine o_loadN rfl rfl (at_old hst) sh24 rfl ?_ | refine o_loadN rfl rfl hst sh24 rfl ?_ | refine o_loadRN rfl rfl sh24 rfl ?_
      refine o_call rfl (ret54 hi _ _ _ _) (.lrefl _) ?_
      refine o_move rfl ?_
      refine o_guard rfl rfl rfl rfl (fun _ => ?_) (fun h => absurd (h.symm.trans g43) (by decide))
      first | refine o_faddr rfl rfl fld27_0 ?_ | refine o_faddrR rfl rfl fld27_0 ?_
      refine o_guard rfl rfl rfl rfl (fun _ => ?_) (fun h => absurd (h.symm.trans g43) (by decide))
      first | refine o_load1 rfl rfl rfl sh22 rfl ?_ | refine o_load1 rfl rfl (at_set _ _ _) sh22 rfl ?_ | refine o_load1 rfl rfl (at_new _ _) sh22 rfl ?_ | refine o_load1 rfl rfl (at_old2 hst) sh22 rfl ?_ | refine o_load1 rfl rfl (at_old hst) sh22 rfl ?_ | refine o_load1 rfl rfl hst sh22 rfl ?_ | refine o_loadR1 rfl rfl sh22 rfl ?_
      refine o_guard rfl rfl rfl rfl (fun _ => ?_) (fun h => absurd (h.symm.trans g43) (by decide))
      refine o_move rfl ?_
      refine o_guard rfl rfl rfl rfl (fun _ => ?_) (fun h => absurd (h.symm.trans g43) (by decide))
      refine o_idx (u := q.u) rfl ty22 rfl rfl (Int.natCast_nonneg n) (by simp [hq]) cl52 ?_
      refine o_guard rfl rfl rfl rfl (fun _ => ?_) (fun h => absurd (h.symm.trans g43) (by decide))
      first | refine o_faddr rfl rfl fld52_1 ?_ | refine o_faddrR rfl rfl fld52_1 ?_
      refine o_guard rfl rfl rfl rfl (fun _ => ?_) (fun h => absurd (h.symm.trans g43) (by decide))
      first | refine o_load1 rfl rfl rfl sh3 rfl ?_ | refine o_load1 rfl rfl (at_set _ _ _) sh3 rfl ?_ | refine o_load1 rfl rfl (at_new _ _) sh3 rfl ?_ | refine o_load1 rfl rfl (at_old2 hst) sh3 rfl ?_ | refine o_load1 rfl rfl (at_old hst) sh3 rfl ?_ | refine o_load1 rfl rfl hst sh3 rfl ?_ | refine o_loadR1 rfl rfl sh3 rfl ?_
      refine o_guard rfl rfl rfl rfl (fun _ => ?_) (fun h => absurd (h.symm.trans g43) (by decide))
      refine o_call rfl (ret34 hi _ _ _) (.lrefl _) ?_
      refine o_pickT rfl rfl g43 ?_
      refine o_assign rfl ?_
      refine o_nil ?_
      refine k_region ?_   -- region 4 outright.go:42
      refine o_move rfl ?_
      refine o_add rfl rfl rfl (by unfold I64; omega) ?_
      refine o_assign rfl ?_
      refine o_nil ?_
      exact ⟨k - 1, by omega, n + 1, by omega, (by first | exact hst | exact at_old2 hst), .cons rfl (.cons (congrArg U.bool g50) (.cons rfl (.nil rfl)))⟩
    · refine k_exit ?_
      refine k_seq ?_
      refine k_seq ?_
      refine k_region ?_   -- region 6 outright.go:45
      refine o_assign rfl ?_
      refine o_nil ?_
      refine k_block ?_
      -- LOOP 2
      refine k_loop (fun k st => ∃ n : Nat, k + n = s.keys.length ∧ st.st[0]? = some (.box s.cs) ∧ Holds st [(1, .box 0 0), (3, .bool true), (5, .int .i64 n)]) (fun k st hI => ?_) s.keys.length _ ?_
      · obtain ⟨n, hk0, hst, hs⟩ := hI
        rw [hs.eq]
        refine k_seq ?_
        refine k_seq ?_
        refine k_region ?_   -- region 7 outright.go:45
        refine o_move rfl ?_
        refine o_move rfl ?_
        refine o_guard rfl rfl rfl rfl (fun _ => ?_) (fun h => absurd (h.symm.trans rfl) (by decide))
        refine o_move rfl ?_
        refine o_guard rfl rfl rfl rfl (fun _ => ?_) (fun h => absurd (h.symm.trans rfl) (by decide))
        first | refine o_faddr rfl rfl fld27_2 ?_ | refine o_faddrR rfl rfl fld27_2 ?_
        refine o_guard rfl rfl rfl rfl (fun _ => ?_) (fun h => absurd (h.symm.trans rfl) (by decide))
        first | refine o_load1 rfl rfl rfl sh25 rfl ?_ | refine o_load1 rfl rfl (at_set _ _ _) sh25 rfl ?_ | refine o_load1 rfl rfl (at_new _ _) sh25 rfl ?_ | refine o_load1 rfl rfl (at_old2 hst) sh25 rfl ?_ | refine o_load1 rfl rfl (at_old hst) sh25 rfl ?_ | refine o_load1 rfl rfl hst sh25 rfl ?_ | refine o_loadR1 rfl rfl sh25 rfl ?_
        refine o_guard rfl rfl rfl rfl (fun _ => ?_) (fun h => absurd (h.symm.trans rfl) (by decide))
        refine o_len rfl ty25 rfl rfl ?_
        refine o_guard rfl rfl rfl rfl (fun _ => ?_) (fun h => absurd (h.symm.trans rfl) (by decide))
        refine o_lss rfl rfl rfl ?_
        refine o_pickT rfl rfl rfl ?_
        refine o_nil ?_
        refine k_cond rfl (fun h2 => ?_) (fun h2 => ?_)   -- slot 59
        · have h3' : n < s.keys.length := by
            have := of_decide_eq_true h2
            simp at this; omega
          obtain ⟨q, hq⟩ : ∃ q, s.keys[n]? = some q := ⟨s.keys[n], List.getElem?_eq_getElem h3'⟩
          have hm := hk.keys q (List.mem_of_getElem? hq)
          have g69 : (decide (-60 ≤ q.a) && (decide (q.a ≤ q.b) && decide (q.b ≤ 60))) = true := by simp; omega
          have g76 : (decide (0 ≤ q.c) && decide (q.c ≤ 30)) = true := by simp; omega
          refine k_skip ?_
          refine k_seq ?_
          refine k_block ?_
          refine k_region ?_   -- region 9 outright.go:46
          first | refine o_faddr rfl rfl fld27_2 ?_ | refine o_faddrR rfl rfl fld27_2 ?_
          first | refine o_load1 rfl rfl rfl sh25 rfl ?_ | refine o_load1 rfl rfl (at_set _ _ _) sh25 rfl ?_ | refine o_load1 rfl rfl (at_new _ _) sh25 rfl ?_ | refine o_load1 rfl rfl (at_old2 hst) sh25 rfl ?_ | refine o_load1 rfl rfl (at_old hst) sh25 rfl ?_ | refine o_load1 rfl rfl hst sh25 rfl ?_ | refine o_loadR1 rfl rfl sh25 rfl ?_
          refine o_move rfl ?_
          refine o_idx (u := q.u) rfl ty25 rfl rfl (Int.natCast_nonneg n) (by simp [hq]) cl64 ?_
          first | refine o_faddr rfl rfl fld64_0 ?_ | refine o_faddrR rfl rfl fld64_0 ?_
          first | refine o_loadN rfl rfl rfl sh24 rfl ?_ | refine o_loadN rfl rfl (at_set _ _ _) sh24 rfl ?_ | refine o_loadN rfl rfl (at_new _ _) sh24 rfl ?_ | refine o_loadN rfl rfl (at_old2 hst) sh24 rfl ?_ | refine o_loadN rfl rfl (at_old hst) sh24 rfl ?_ | refine o_loadN rfl rfl hst sh24 rfl ?_ | refine o_loadRN rfl rfl sh24 rfl ?_
          refine o_call rfl (ret54 hi _ _ _ _) (.lrefl _) ?_
          refine o_move rfl ?_
          refine o_guard rfl rfl rfl rfl (fun _ => ?_) (fun h => absurd (h.symm.trans g69) (by decide))
          first | refine o_faddr rfl rfl fld27_2 ?_ | refine o_faddrR rfl rfl fld27_2 ?_
          refine o_guard rfl rfl rfl rfl (fun _ => ?_) (fun h => absurd (h.symm.trans g69) (by decide))
          first | refine o_load1 rfl rfl rfl sh25 rfl ?_ | refine o_load1 rfl rfl (at_set _ _ _) sh25 rfl ?_ | refine o_load1 rfl rfl (at_new _ _) sh25 rfl ?_ | refine o_load1 rfl rfl (at_old2 hst) sh25 rfl ?_ | refine o_load1 rfl rfl (at_old hst) sh25 rfl ?_ | refine o_load1 rfl rfl hst sh25 rfl ?_ | refine o_loadR1 rfl rfl sh25 rfl ?_
          refine o_guard rfl rfl rfl rfl (fun _ => ?_) (fun h => absurd (h.symm.trans g69) (by decide))
          refine o_move rfl ?_
          refine o_guard rfl rfl rfl rfl (fun _ => ?_) (fun h => absurd (h.symm.trans g69) (by decide))
          refine o_idx (u := q.u) rfl ty25 rfl rfl (Int.natCast_nonneg n) (by simp [hq]) cl64 ?_
          refine o_guard rfl rfl rfl rfl (fun _ => ?_) (fun h => absurd (h.symm.trans g69) (by decide))
          first | refine o_faddr rfl rfl fld64_1 ?_ | refine o_faddrR rfl rfl fld64_1 ?_
          refine o_guard rfl rfl rfl rfl (fun _ => ?_) (fun h => absurd (h.symm.trans g69) (by decide))
          first | refine o_load1 rfl rfl rfl sh3 rfl ?_ | refine o_load1 rfl rfl (at_set _ _ _) sh3 rfl ?_ | refine o_load1 rfl rfl (at_new _ _) sh3 rfl ?_ | refine o_load1 rfl rfl (at_old2 hst) sh3 rfl ?_ | refine o_load1 rfl rfl (at_old hst) sh3 rfl ?_ | refine o_load1 rfl rfl hst sh3 rfl ?_ | refine o_loadR1 rfl rfl sh3 rfl ?_
          refine o_guard rfl rfl rfl rfl (fun _ => ?_) (fun h => absurd (h.symm.trans g69) (by decide))
          refine o_call rfl (ret34 hi _ _ _) (.lrefl _) ?_
          refine o_pickT rfl rfl g69 ?_
          refine o_assign rfl ?_
          refine o_nil ?_
          refine k_region ?_   -- region 8 outright.go:45
          refine o_move rfl ?_
          refine o_add rfl rfl rfl (by unfold I64; omega) ?_
          refine o_assign rfl ?_
          refine o_nil ?_
          exact ⟨k - 1, by omega, n + 1, by omega, (by first | exact hst | exact at_old2 hst), .cons rfl (.cons (congrArg U.bool g76) (.cons rfl (.nil rfl)))⟩
        · refine k_exit ?_
          refine k_seq ?_
          refine k_region ?_   -- region 10 outright.go:48
          refine o_move rfl ?_
          refine o_assign rfl ?_
          refine o_nil ?_
          refine k_ret ?_
          refine ⟨.inr rfl, _, .cons _ _ _ _ (.tmp 2) .nil, ?_⟩
          exact .refl _
      · exact ⟨0, rfl, hst, .cons rfl (.cons rfl (.cons rfl (.nil rfl)))⟩
  · exact ⟨0, rfl, rfl, .cons rfl (.cons (congrArg U.bool g25) (.cons rfl (.nil rfl)))⟩
set_option maxHeartbeats 4000000 in
theorem ret32n (hi : Off is) {s : Shop} (hv : checkR s.tools s.keys s.flo s.fhi ≠ 0) : RetP Try.prog is orc 32 [s.u] (.bool false) := by
  refine ret_of body32 pure32 (hi 32 (by decide)) rfl rfl (dat_l1 (dat_shop s 5)) (.inl (.bool _ _)) ?_
  have g9 : decide (checkR s.tools s.keys s.flo s.fhi = 0) = false := decide_eq_false hv
  refine k_seq ?_
  refine k_region ?_   -- region 0 outright.go:40
  refine o_box rfl rfl ?_
  refine o_assign rfl ?_
  refine o_nil ?_
  refine k_seq ?_
  refine k_region ?_   -- region 1 outright.go:41
  first | refine o_loadN rfl rfl rfl sh27 rfl ?_ | refine o_loadRN rfl rfl sh27 rfl ?_
  refine o_call rfl (chk hi s) (.lrefl _) ?_
  refine o_eql rfl rfl rfl ?_
  refine o_move rfl ?_
  refine o_guard rfl rfl rfl rfl (fun h => absurd (h.symm.trans g9) (by decide)) (fun _ => ?_)
  refine o_guard rfl rfl rfl rfl (fun h => absurd (h.symm.trans g9) (by decide)) (fun _ => ?_)
  refine o_guard rfl rfl rfl rfl (fun h => absurd (h.symm.trans g9) (by decide)) (fun _ => ?_)
  refine o_guard rfl rfl rfl rfl (fun h => absurd (h.symm.trans g9) (by decide)) (fun _ => ?_)
  refine o_pickF rfl rfl g9 ?_
  refine o_move rfl ?_
  refine o_guard rfl rfl rfl rfl (fun h => by cases h) (fun _ => ?_)
  refine o_guard rfl rfl rfl rfl (fun h => by cases h) (fun _ => ?_)
  refine o_guard rfl rfl rfl rfl (fun h => by cases h) (fun _ => ?_)
  refine o_pickF rfl rfl rfl ?_
  refine o_move rfl ?_
  refine o_guard rfl rfl rfl rfl (fun h => by cases h) (fun _ => ?_)
  refine o_guard rfl rfl rfl rfl (fun h => by cases h) (fun _ => ?_)
  refine o_guard rfl rfl rfl rfl (fun h => by cases h) (fun _ => ?_)
  refine o_guard rfl rfl rfl rfl (fun h => by cases h) (fun _ => ?_)
  refine o_pickF rfl rfl rfl ?_
  refine o_assign rfl ?_
  refine o_nil ?_
  refine k_seq ?_
  refine k_seq ?_
  refine k_region ?_   -- region 2 outright.go:42
  refine o_assign rfl ?_
  refine o_nil ?_
  refine k_block ?_
  -- LOOP 1
  refine k_loop (fun k st => st.st[0]? = some (.box s.cs) ∧ Holds st [(1, .box 0 0), (3, .bool false), (4, .int .i64 0)]) (fun k st hI => ?_) 0 _ ?_
  · obtain ⟨hst, hs⟩ := hI
    rw [hs.eq]
    refine k_seq ?_
    refine k_seq ?_
    refine k_region ?_   -- region 3 outright.go:42
    refine o_move rfl ?_
    refine o_move rfl ?_
    refine o_guard rfl rfl rfl rfl (fun h => absurd (h.symm.trans rfl) (by decide)) (fun _ => ?_)
    refine o_guard rfl rfl rfl rfl (fun h => absurd (h.symm.trans rfl) (by decide)) (fun _ => ?_)
    refine o_guard rfl rfl rfl rfl (fun h => absurd (h.symm.trans rfl) (by decide)) (fun _ => ?_)
    refine o_guard rfl rfl rfl rfl (fun h => absurd (h.symm.trans rfl) (by decide)) (fun _ => ?_)
    refine o_guard rfl rfl rfl rfl (fun h => absurd (h.symm.trans rfl) (by decide)) (fun _ => ?_)
    refine o_pickF rfl rfl rfl ?_
    refine o_nil ?_
    refine k_cond rfl (fun h => by cases h) (fun _ => ?_)
    refine k_exit ?_
    refine k_seq ?_
    refine k_seq ?_
    refine k_region ?_   -- region 6 outright.go:45
    refine o_assign rfl ?_
    refine o_nil ?_
    refine k_block ?_
    -- LOOP 2
    refine k_loop (fun k st => st.st[0]? = some (.box s.cs) ∧ Holds st [(1, .box 0 0), (3, .bool false), (5, .int .i64 0)]) (fun k st hI => ?_) 0 _ ?_
    · obtain ⟨hst, hs⟩ := hI
      rw [hs.eq]
      refine k_seq ?_
      refine k_seq ?_
      refine k_region ?_   -- region 7 outright.go:45
      refine o_move rfl ?_
      refine o_move rfl ?_
      refine o_guard rfl rfl rfl rfl (fun h => absurd (h.symm.trans rfl) (by decide)) (fun _ => ?_)
      refine o_guard rfl rfl rfl rfl (fun h => absurd (h.symm.trans rfl) (by decide)) (fun _ => ?_)
      refine o_guard rfl rfl rfl rfl (fun h => absurd (h.symm.trans rfl) (by decide)) (fun _ => ?_)
      refine o_guard rfl rfl rfl rfl (fun h => absurd (h.symm.trans rfl) (by decide)) (fun _ => ?_)
      refine o_guard rfl rfl rfl rfl (fun h => absurd (h.symm.trans rfl) (by decide)) (fun _ => ?_)
      refine o_pickF rfl rfl rfl ?_
      refine o_nil ?_
      refine k_cond rfl (fun h => by cases h) (fun _ => ?_)
      refine k_exit ?_
      refine k_seq ?_
      refine k_region ?_   -- region 10 outright.go:48
      refine o_move rfl ?_
      refine o_assign rfl ?_
      refine o_nil ?_
      refine k_ret ?_
      refine ⟨.inr rfl, _, .cons _ _ _ _ (.tmp 2) .nil, ?_⟩
      exact .refl _
    · exact ⟨hst, .cons rfl (.cons rfl (.cons rfl (.nil rfl)))⟩
  · exact ⟨rfl, .cons rfl (.cons rfl (.cons rfl (.nil rfl)))⟩
end Go.Proofs.Ytdahbimllmapkaa.raspMore
