/- rasp's functions and the law's, by the logic of trees: what each gives back for all that it may be given. -/
import Derived.Test.YtdahbimllmapkaaVamRaspMore4
namespace Go.Proofs.Ytdahbimllmapkaa.raspMore
open Vam
set_option linter.unusedVariables false
set_option linter.unusedSimpArgs false
set_option linter.constructorNameAsVariable false
variable {is : FuncId → Bool} {orc : Known}
def askR (s : Shop) (b : Bool) : Int := if checkR s.tools s.keys s.flo s.fhi ≠ 0 then checkR s.tools s.keys s.flo s.fhi else if b = true then 0 else 31
theorem ask_bad {s : Shop} {b : Bool} (h : askR s b ≠ 0) : (checkR s.tools s.keys s.flo s.fhi ≠ 0 ∧ askR s b = checkR s.tools s.keys s.flo s.fhi) ∨ (checkR s.tools s.keys s.flo s.fhi = 0 ∧ b = false ∧ askR s b = 31) := by
  unfold askR at h ⊢
  by_cases hc : checkR s.tools s.keys s.flo s.fhi ≠ 0
  · rw [if_pos hc]; exact .inl ⟨hc, rfl⟩
  · rw [if_neg hc] at h ⊢
    cases b with
    | true => exact absurd rfl h
    | false => exact .inr ⟨by omega, rfl, rfl⟩
theorem ask46 (hi : Off is) {s : Shop} {b : Bool} (h : askR s b ≠ 0) : RetP Try.prog is orc 46 [s.u, .bool b] (.tup [.agg z6, .int .i64 (askR s b)]) := by
  have hck := chk (orc := orc) hi s
  rcases ask_bad h with ⟨h1, h2⟩ | ⟨h1, rfl, h2⟩
  · rw [h2]; exact ret46e s h1 hck b
  · rw [h2]; rw [h1] at hck; exact ret46q s hck
set_option maxHeartbeats 4000000 in
theorem ret14x (hi : Off is) {s : Shop} {off metal : Int} (h : askR s (offB off && metB metal) ≠ 0) : RetP Try.prog is orc 14 [s.u, .int .i64 off, .int .i64 metal] (.tup [.int .i64 0, .int .i64 0, .int .i64 (askR s (offB off && metB metal))]) := by
  have q46 := ask46 (orc := orc) hi h
  have q47 := ret47 (orc := orc) hi off
  have q48 := ret48 (orc := orc) hi metal
  rw [show (decide (-60 ≤ off) && decide (off ≤ 60)) = offB off from rfl] at q47
  rw [show (decide (0 ≤ metal) && decide (metal ≤ 30)) = metB metal from rfl] at q48
  generalize askR s (offB off && metB metal) = c at h q46
  generalize offB off = b1 at q46 q47
  generalize metB metal = b2 at q46 q48
  refine ret_of body14 pure14 (hi 14 (by decide)) rfl rfl (dat_next s off metal) (datR_next _ _ _) ?_
  cases b1 with
  | true =>
    refine k_seq (k_region ?_)
    refine o_box rfl rfl ?_
    refine o_assign rfl ?_
    refine o_assign rfl ?_
    refine o_assign rfl ?_
    refine o_nil ?_
    refine k_gen [(1, .int .i64 off), (2, .int .i64 metal), (3, U.box 0 0)] ([SB.box [U.lst Kd.ro 3 (trisU (Shop.tools s)), .int .i64 (Shop.flo s), .int .i64 (Shop.fhi s), U.lst Kd.ro 3 (trisU (Shop.keys s))]]) (.cons rfl (.cons rfl (.cons rfl (.nil rfl)))) rfl fun fr => ?_
    refine k_seq ?_
    refine k_draw [.read true, .plain, .read false, .plain, .plain, .read false, .plain, .quiet, .plain, .plain, .plain, .pre, .plain, .plain] (by kernel_rfl) (by kernel_rfl) (by kernel_rfl) ?_
    refine d_load rfl (o_loadN rfl rfl rfl sh27 rfl (o_nil rfl)) ?_
    refine d_plain (o_move rfl (o_nil rfl)) ?_
    refine d_callR rfl (q47) (.bool _) (.lrefl _) ?_
    refine d_plain (o_move rfl (o_nil rfl)) ?_
    refine d_gD rfl rfl rfl rfl rfl ?_
    refine d_plain (o_move rfl (o_nil rfl)) ?_
    refine d_gD rfl rfl rfl rfl rfl ?_
    refine d_callR rfl (q48) (.bool _) (.lrefl _) ?_
    refine d_plain (o_pickT rfl rfl rfl (o_nil rfl)) ?_
    refine d_callQ rfl (q46) (.lrefl _) ?_
    refine d_plain (o_move rfl (o_nil rfl)) ?_
    refine d_genA [(1, .int .i64 off), (2, .int .i64 metal), (11, U.tup [U.agg z6, .int .i64 c])] [] ([SB.box [U.lst Kd.ro 3 (trisU (Shop.tools s)), .int .i64 (Shop.flo s), .int .i64 (Shop.fhi s), U.lst Kd.ro 3 (trisU (Shop.keys s))]]) (.cons rfl (.cons rfl (.cons rfl (.nil rfl)))) rfl rfl fun fr => ?_
    refine d_plain (o_extract rfl rfl rfl (o_nil rfl)) ?_
    refine d_plain (o_extract rfl rfl rfl (o_nil rfl)) ?_
    refine d_pre rfl ze73 ?_
    refine d_plain (o_storeN rfl rfl sh73 rfl rfl rfl rfl rfl (o_nil rfl)) ?_
    refine d_plain (o_assign rfl (o_nil rfl)) ?_
    refine d_nil ?_
    refine k_gen [(1, .int .i64 off), (2, .int .i64 metal), (8, .int .i64 c), (9, U.box 1 0)] ([SB.box [U.lst Kd.ro 3 (trisU (Shop.tools s)), .int .i64 (Shop.flo s), .int .i64 (Shop.fhi s), U.lst Kd.ro 3 (trisU (Shop.keys s))], SB.box [U.lst Kd.full 0 [], .int .i64 0, .int .i64 0, U.lst Kd.full 0 [], U.nilf, U.nilf]]) (.cons rfl (.cons rfl (.cons rfl (.cons rfl (.nil rfl))))) rfl fun fr => ?_
    refine k_seq ?_
    refine k_seq (k_region ?_)
    refine o_move rfl ?_
    refine o_neq rfl rfl rfl ?_
    refine o_nil ?_
    refine k_cT rfl (decide_eq_true (by omega)) ?_
    refine k_seq (k_region ?_)
    refine o_move rfl ?_
    refine o_assign rfl ?_
    refine o_assign rfl ?_
    refine o_assign rfl ?_
    refine o_nil ?_
    refine k_ret ?_
    refine ⟨.inr rfl, _, .cons _ _ _ _ (.tmp 6) (.cons _ _ _ _ (.tmp 7) (.cons _ _ _ _ (.tmp 8) .nil)), ?_⟩
    exact .refl _
  | false =>
    refine k_seq (k_region ?_)
    refine o_box rfl rfl ?_
    refine o_assign rfl ?_
    refine o_assign rfl ?_
    refine o_assign rfl ?_
    refine o_nil ?_
    refine k_gen [(1, .int .i64 off), (2, .int .i64 metal), (3, U.box 0 0)] ([SB.box [U.lst Kd.ro 3 (trisU (Shop.tools s)), .int .i64 (Shop.flo s), .int .i64 (Shop.fhi s), U.lst Kd.ro 3 (trisU (Shop.keys s))]]) (.cons rfl (.cons rfl (.cons rfl (.nil rfl)))) rfl fun fr => ?_
    refine k_seq ?_
    refine k_draw [.read true, .plain, .read false, .plain, .plain, .read false, .plain, .quiet, .plain, .plain, .plain, .pre, .plain, .plain] (by kernel_rfl) (by kernel_rfl) (by kernel_rfl) ?_
    refine d_load rfl (o_loadN rfl rfl rfl sh27 rfl (o_nil rfl)) ?_
    refine d_plain (o_move rfl (o_nil rfl)) ?_
    refine d_callR rfl (q47) (.bool _) (.lrefl _) ?_
    refine d_plain (o_move rfl (o_nil rfl)) ?_
    refine d_gS rfl rfl rfl rfl rfl ?_
    refine d_gS rfl rfl rfl rfl rfl ?_
    refine d_plain (o_pickF rfl rfl rfl (o_nil rfl)) ?_
    refine d_callQ rfl (q46) (.lrefl _) ?_
    refine d_plain (o_move rfl (o_nil rfl)) ?_
    refine d_genA [(1, .int .i64 off), (2, .int .i64 metal), (11, U.tup [U.agg z6, .int .i64 c])] [] ([SB.box [U.lst Kd.ro 3 (trisU (Shop.tools s)), .int .i64 (Shop.flo s), .int .i64 (Shop.fhi s), U.lst Kd.ro 3 (trisU (Shop.keys s))]]) (.cons rfl (.cons rfl (.cons rfl (.nil rfl)))) rfl rfl fun fr => ?_
    refine d_plain (o_extract rfl rfl rfl (o_nil rfl)) ?_
    refine d_plain (o_extract rfl rfl rfl (o_nil rfl)) ?_
    refine d_pre rfl ze73 ?_
    refine d_plain (o_storeN rfl rfl sh73 rfl rfl rfl rfl rfl (o_nil rfl)) ?_
    refine d_plain (o_assign rfl (o_nil rfl)) ?_
    refine d_nil ?_
    refine k_gen [(1, .int .i64 off), (2, .int .i64 metal), (8, .int .i64 c), (9, U.box 1 0)] ([SB.box [U.lst Kd.ro 3 (trisU (Shop.tools s)), .int .i64 (Shop.flo s), .int .i64 (Shop.fhi s), U.lst Kd.ro 3 (trisU (Shop.keys s))], SB.box [U.lst Kd.full 0 [], .int .i64 0, .int .i64 0, U.lst Kd.full 0 [], U.nilf, U.nilf]]) (.cons rfl (.cons rfl (.cons rfl (.cons rfl (.nil rfl))))) rfl fun fr => ?_
    refine k_seq ?_
    refine k_seq (k_region ?_)
    refine o_move rfl ?_
    refine o_neq rfl rfl rfl ?_
    refine o_nil ?_
    refine k_cT rfl (decide_eq_true (by omega)) ?_
    refine k_seq (k_region ?_)
    refine o_move rfl ?_
    refine o_assign rfl ?_
    refine o_assign rfl ?_
    refine o_assign rfl ?_
    refine o_nil ?_
    refine k_ret ?_
    refine ⟨.inr rfl, _, .cons _ _ _ _ (.tmp 6) (.cons _ _ _ _ (.tmp 7) (.cons _ _ _ _ (.tmp 8) .nil)), ?_⟩
    exact .refl _
def triF (l : List Tri) : List U := l.flatMap fun q => [.int .i64 q.a, .int .i64 q.b, .int .i64 q.c]
theorem triF_flat (l : List Tri) : flatU (trisU l) = triF l := by
  induction l with
  | nil => rfl
  | cons q l ih => show [U.int .i64 q.a, .int .i64 q.b, .int .i64 q.c] ++ flatU (trisU l) = _; rw [ih]; rfl
theorem triF_dg (l : List Tri) : (triF l).map dg = triF l := by
  induction l with
  | nil => rfl
  | cons q l ih => show [U.int .i64 q.a, .int .i64 q.b, .int .i64 q.c] ++ (triF l).map dg = _; rw [ih]; rfl
theorem triF_len (l : List Tri) : (triF l).length = l.length * 3 := by
  induction l with
  | nil => rfl
  | cons q l ih => show (triF l).length + 1 + 1 + 1 = _; rw [ih]; simp; omega
theorem triF_set (l : List Tri) : ∀ (i : Nat) (q : Tri), i < l.length → (triF l).take (i * 3) ++ [.int .i64 q.a, .int .i64 q.b, .int .i64 q.c] ++ (triF l).drop (i * 3 + 3) = triF (l.set i q) := by
  induction l with
  | nil => intro i q h; exact absurd h (Nat.not_lt_zero _)
  | cons x l ih =>
    intro i q h
    cases i with
    | zero => rfl
    | succ i =>
      have := ih i q (by simpa using h)
      show (U.int .i64 x.a :: U.int .i64 x.b :: U.int .i64 x.c :: triF l).take ((i + 1) * 3) ++ _ ++ (U.int .i64 x.a :: U.int .i64 x.b :: U.int .i64 x.c :: triF l).drop ((i + 1) * 3 + 3) = U.int .i64 x.a :: U.int .i64 x.b :: U.int .i64 x.c :: triF (l.set i q)
      rw [← this, show (i + 1) * 3 = i * 3 + 1 + 1 + 1 by omega]; rfl
theorem triF_one (l : List Tri) : (triF l).all oneU = true := by
  induction l with
  | nil => rfl
  | cons q l ih => exact ih
theorem trisU_one (l : List Tri) : (flatU (trisU l)).all oneU = true := by rw [triF_flat]; exact triF_one l
theorem mem_set {α : Type} {l : List α} {i : Nat} {x y : α} (h : y ∈ l.set i x) : y ∈ l ∨ y = x := by
  obtain ⟨j, hj⟩ := List.mem_iff_getElem?.1 h
  by_cases e : i = j
  · subst e
    rw [List.getElem?_set] at hj
    simp at hj
    exact .inr hj.2.symm
  · rw [List.getElem?_set_ne e] at hj
    exact .inl (List.mem_of_getElem? hj)
theorem set_ok {s : Shop} (hk : SOk s) {i : Nat} {q : Tri} (hq : -30 ≤ q.a ∧ q.a ≤ q.b ∧ q.b ≤ 30 ∧ 1 ≤ q.c ∧ q.c ≤ 10) : SOk ⟨s.tools.set i q, s.flo, s.fhi, s.keys⟩ := by
  refine ⟨by show 1 ≤ (s.tools.set i q).length ∧ (s.tools.set i q).length ≤ 4; rw [List.length_set]; exact hk.nt, hk.fine, hk.nk, fun t ht => ?_, hk.keys⟩
  rcases mem_set ht with h | rfl
  · exact hk.tools t h
  · exact hq
theorem set_easier {s : Shop} (hk : SOk s) {i : Nat} {t q : Tri} {w : Bool} (ht : s.tools[i]? = some t) (h : t.a ≤ q.a ∧ q.a ≤ q.b ∧ q.b ≤ t.b ∧ q.c ≤ t.c ∧ (w = false → q.a = t.a ∧ q.b = t.b)) : Easier s ⟨s.tools.set i q, s.flo, s.fhi, s.keys⟩ w := by
  refine ⟨fun _ h => h, fun u hu => ?_⟩
  obtain ⟨j, hj⟩ := List.mem_iff_getElem?.1 hu
  by_cases e : i = j
  · subst e
    rw [ht] at hj; cases hj
    refine ⟨q, List.mem_of_getElem? (i := i) (by show (s.tools.set i q)[i]? = _; rw [List.getElem?_set_self (List.getElem?_eq_some_iff.1 ht).1]), h⟩
  · refine ⟨u, List.mem_of_getElem? (i := j) (by show (s.tools.set i q)[j]? = _; rw [List.getElem?_set_ne e]; exact hj), by omega, (hk.tools u hu).2.1, by omega, by omega, fun _ => ⟨rfl, rfl⟩⟩
theorem app_easier {s : Shop} (hk : SOk s) {q : Tri} {w : Bool} : Easier s ⟨s.tools ++ [q], s.flo, s.fhi, s.keys⟩ w :=
  ⟨fun _ h => h, fun u hu => ⟨u, List.mem_append_left _ hu, by omega, (hk.tools u hu).2.1, by omega, by omega, fun _ => ⟨rfl, rfl⟩⟩⟩
theorem check_cases (t k : List Tri) (lo hi : Int) : checkR t k lo hi = 0 ∨ checkR t k lo hi = 30 := by unfold checkR; split <;> simp
end Go.Proofs.Ytdahbimllmapkaa.raspMore
