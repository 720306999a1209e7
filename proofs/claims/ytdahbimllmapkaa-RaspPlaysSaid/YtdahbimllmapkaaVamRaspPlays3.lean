/- rasp's functions and the law's, by the logic of trees: what each gives back for all that it may be given. -/
import Derived.Test.YtdahbimllmapkaaVamRaspPlays2
namespace Go.Proofs.Ytdahbimllmapkaa.raspPlays
open Vam
set_option linter.unusedVariables false
set_option linter.unusedSimpArgs false
set_option linter.constructorNameAsVariable false
variable {is : FuncId → Bool} {orc : Known}
noncomputable def b25 : Code := (Try.f25.body).getD .skip
theorem body25 : bodyOf Try.prog 25 = some (31, b25, [.tmp 4]) := by kernel_rfl
theorem pure25 : pureFn Try.prog 25 = true := by kernel_rfl
theorem take_eq {l m : List Int} {i : Nat} {x y : Int} (hx : l[i]? = some x) (hy : m[i]? = some y) (h : l.take i = m.take i) : l.take (i + 1) = m.take (i + 1) ↔ x = y := by
  rw [List.take_add_one, List.take_add_one, hx, hy, h]; simp
set_option maxHeartbeats 4000000 in
theorem ret25 (hi : Off is) (l m : List Int) (hll : l.length ≤ 4096) : RetP Try.prog is orc 25 [.lst .ro 1 (intsU l), .lst .ro 1 (intsU m)] (.bool (decide (l = m))) := by
  refine ret_of body25 pure25 (hi 25 (by decide)) rfl rfl (dat_l2 (dat_ints 6 .ro (fun h => by cases h) 1 l) (dat_ints 6 .ro (fun h => by cases h) 1 m)) (.inl (.bool _ _)) ?_
  refine k_seq (k_region ?_)
  refine o_assign rfl ?_
  refine o_nil ?_
  refine k_seq (k_region ?_)
  refine o_move rfl ?_
  refine o_len rfl ty38 rfl (List.length_map _) ?_
  refine o_move rfl ?_
  refine o_len rfl ty38 rfl (List.length_map _) ?_
  refine o_eql rfl rfl rfl ?_
  refine o_assign rfl ?_
  refine o_nil ?_
  refine k_seq ?_
  refine k_seq (k_region ?_)
  refine o_assign rfl ?_
  refine o_nil ?_
  refine k_block ?_
  refine k_loop (fun k st => ∃ (i : Nat) (b : Bool), k + i = l.length ∧ (b = true → l.length = m.length ∧ l.take i = m.take i) ∧ (b = false → l ≠ m) ∧ st.st = [] ∧ Holds st [(0, .lst .ro 1 (intsU l)), (1, .lst .ro 1 (intsU m)), (5, .bool b), (6, .int .i64 i)]) (fun k st hI => ?_) l.length _ ?_
  · obtain ⟨i, b, hki, hb1, hb2, hst, hs⟩ := hI
    refine k_gen _ _ hs hst fun fr => ?_
    cases b with
    | true =>
      obtain ⟨hlen, htk⟩ := hb1 rfl
      refine k_seq ?_
      refine k_seq (k_region ?_)
      refine o_move rfl ?_
      refine o_move rfl ?_
      refine o_gD rfl rfl rfl rfl rfl ?_
      refine o_move rfl ?_
      refine o_gD rfl rfl rfl rfl rfl ?_
      refine o_move rfl ?_
      refine o_gD rfl rfl rfl rfl rfl ?_
      refine o_len rfl ty38 rfl (List.length_map _) ?_
      refine o_gD rfl rfl rfl rfl rfl ?_
      refine o_lss rfl rfl rfl ?_
      refine o_pickT rfl rfl rfl ?_
      refine o_nil ?_
      refine k_cond rfl (fun h18 => ?_) (fun h18 => ?_)
      · refine k_skip ?_
        refine k_seq ?_
        refine k_block ?_
        refine k_draw [.plain, .plain, .plain, .read true, .plain, .plain, .plain, .read true, .plain, .plain] (by kernel_rfl) (by kernel_rfl) (by kernel_rfl) ?_
        refine d_plain (o_move rfl (o_nil rfl)) ?_
        refine d_plain (o_move rfl (o_nil rfl)) ?_
        have hil : i < l.length := by have := of_decide_eq_true h18; omega
        obtain ⟨x, hx⟩ : ∃ x, l[i]? = some x := ⟨l[i], List.getElem?_eq_getElem hil⟩
        obtain ⟨y, hy⟩ : ∃ y, m[i]? = some y := ⟨m[i], List.getElem?_eq_getElem (by omega)⟩
        refine d_plain (o_idx (u := .int .i64 x) rfl ty38 rfl rfl (Int.natCast_nonneg _) (by simp [hx]) cl3 (o_nil rfl)) ?_
        refine d_load rfl (o_loadR1 rfl rfl sh3 rfl (o_nil rfl)) ?_
        refine d_plain (o_move rfl (o_nil rfl)) ?_
        refine d_plain (o_move rfl (o_nil rfl)) ?_
        refine d_plain (o_idx (u := .int .i64 y) rfl ty38 rfl rfl (Int.natCast_nonneg _) (by simp [hy]) cl3 (o_nil rfl)) ?_
        refine d_load rfl (o_loadR1 rfl rfl sh3 rfl (o_nil rfl)) ?_
        refine d_plain (o_eql rfl rfl rfl (o_nil rfl)) ?_
        refine d_plain (o_assign rfl (o_nil rfl)) ?_
        refine d_nil ?_
        refine k_region ?_
        refine o_move rfl ?_
        refine o_add rfl rfl rfl (by unfold I64; omega) ?_
        refine o_assign rfl ?_
        refine o_nil ?_
        refine ⟨k - 1, by omega, i + 1, _, by omega, fun h => ⟨hlen, (take_eq hx hy htk).2 (of_decide_eq_true h)⟩, fun h hlm => ?_, rfl, .cons rfl (.cons rfl (.cons rfl (.cons rfl (.nil rfl))))⟩
        subst hlm; rw [hx] at hy; cases hy; exact of_decide_eq_false h rfl
      · refine k_exit ?_
        refine k_seq (k_region ?_)
        refine o_move rfl ?_
        refine o_assign rfl ?_
        refine o_nil ?_
        refine k_ret ?_
        refine ⟨.inr rfl, _, .cons _ _ _ _ (.tmp 4) .nil, ?_⟩
        have hil : i = l.length := by have := of_decide_eq_false h18; omega
        have hlm : l = m := by rw [← List.take_length (l := l), ← hil, htk, hil, hlen, List.take_length]
        rw [decide_eq_true hlm]; exact .refl _
    | false =>
      refine k_seq ?_
      refine k_seq (k_region ?_)
      refine o_move rfl ?_
      refine o_move rfl ?_
      refine o_gS rfl rfl rfl rfl rfl ?_
      refine o_gS rfl rfl rfl rfl rfl ?_
      refine o_gS rfl rfl rfl rfl rfl ?_
      refine o_gS rfl rfl rfl rfl rfl ?_
      refine o_pickF rfl rfl rfl ?_
      refine o_nil ?_
      refine k_cF rfl rfl ?_
      refine k_exit ?_
      refine k_seq (k_region ?_)
      refine o_move rfl ?_
      refine o_assign rfl ?_
      refine o_nil ?_
      refine k_ret ?_
      refine ⟨.inr rfl, _, .cons _ _ _ _ (.tmp 4) .nil, ?_⟩
      rw [decide_eq_false (hb2 rfl)]; exact .refl _
  · exact ⟨0, _, by omega, fun h => ⟨by have := of_decide_eq_true h; omega, by simp⟩, fun h hlm => of_decide_eq_false h (by rw [hlm]), rfl, .cons rfl (.cons rfl (.cons rfl (.cons rfl (.nil rfl))))⟩
theorem hit_bd {rec : Int → Int → Int} (hb : ∀ o m, 0 ≤ rec o m ∧ rec o m ≤ 31) (off metal : Int) (t : Tri) (n : Nat) : ∀ x ∈ hitL rec off metal t n, 0 ≤ x ∧ x ≤ 31 := fun x hx => by
  unfold hitL at hx
  obtain ⟨j, _, rfl⟩ := List.mem_map.1 hx
  exact hb _ _
noncomputable def b59 : Code := (Try.f59.body).getD .skip
theorem body59 : bodyOf Try.prog 59 = some (14, b59, [.tmp 4]) := by kernel_rfl
theorem pure59 : pureFn Try.prog 59 = true := by kernel_rfl
theorem hk_has {s : Shop} {i : Nat} (h : i < s.keys.length) : ∃ k, s.keys[i]? = some k := ⟨s.keys[i], List.getElem?_eq_getElem h⟩
set_option maxHeartbeats 4000000 in
theorem ret59 (hi : Off is) {s : Shop} {i : Nat} (h : i < s.keys.length) : RetP Try.prog is orc 59 [s.u, .int .i64 i] (.bool true) := by
  have : RetP Try.prog is orc 59 [s.u, .int .i64 i] (.bool (decide ((i : Int) < (s.keys.length : Int)))) := by
    refine ret_of body59 pure59 (hi 59 (by decide)) rfl rfl (dat_l2 (dat_shop s 5) (.int _ _ _)) (.inl (.bool _ _)) ?_
    refine k_seq (k_region ?_)
    refine o_box rfl rfl ?_
    refine o_assign rfl ?_
    refine o_nil ?_
    refine k_seq (k_region ?_)
    refine o_move rfl ?_
    refine o_leq rfl rfl rfl ?_
    refine o_move rfl ?_
    refine o_gD rfl rfl rfl rfl (decide_eq_true (by omega)) ?_
    refine o_move rfl ?_
    refine o_gD rfl rfl rfl rfl (decide_eq_true (by omega)) ?_
    refine o_faddr rfl rfl fld27_2 ?_
    refine o_gD rfl rfl rfl rfl (decide_eq_true (by omega)) ?_
    refine o_load1 rfl rfl rfl sh25 rfl ?_
    refine o_gD rfl rfl rfl rfl (decide_eq_true (by omega)) ?_
    refine o_len rfl ty25 rfl (List.length_map _) ?_
    refine o_gD rfl rfl rfl rfl (decide_eq_true (by omega)) ?_
    refine o_lss rfl rfl rfl ?_
    refine o_pickT rfl rfl rfl ?_
    refine o_assign rfl ?_
    refine o_nil ?_
    refine k_ret ?_
    refine ⟨.inr rfl, _, .cons _ _ _ _ (.tmp 4) .nil, ?_⟩
    exact .refl _
  rwa [decide_eq_true (by omega)] at this
theorem askD (hi : Off is) {s : Shop} (hk : SOk s) {all : List Oper} {l : List (Oper × M0)} {d : Option Nat} {xs : Array Operand} {ts : Array TypeId} {t : TypeId} {p : String} {e : Array Edge} {Q : St → Prop} {st : St} (hlen : st.st = [.box s.cs]) (hd : okDst 1024 d = true)
    (hle : UW (.l (evalUs st xs.toList)) (.l [s.u, .bool true]))
    (k : WpD Try.prog is orc all l ((⟨st.fr, st.al, nx0 s []⟩ : St).dst d (.tup [.agg (shopC s 7 13), .int .i64 0])) Q) :
    WpD Try.prog is orc all ((⟨d, .call ⟨.value (.func 46), xs, ts⟩, t, p, e, none⟩, .quiet) :: l) st Q := by
  have hck : RetP Try.prog is orc 16 [s.u] (.int .i64 0) := by have := chk (orc := orc) hi s; rwa [chk_ok hk] at this
  refine d_callQW (n := 1) (args := [s.u, .bool true]) (M := fun u new => u = .tup [.agg (shopC s 7 13), .int .i64 0] ∧ new = [.box s.cs, .box (shopC s 7 13)] ++ new68 s 3 [] []) (by rw [hlen]; rfl) hd (fun u hu => by
    simp only [List.mem_cons, List.not_mem_nil, or_false] at hu
    rcases hu with rfl | rfl
    · exact (dat_shop s 5).nb
    · exact NB.bool _) ((wpc46 hi s hck _).mono fun u st' hM => ?_) hle (fun u new hM => ?_)
  · obtain ⟨rfl, rfl⟩ := hM
    rw [List.length_replicate]
    refine ⟨[.box s.cs, .box (shopC s 7 13)] ++ new68 s 3 [] [], rfl, Fwd.tup fun c hc => ?_, fun x hx => ?_, rfl, rfl⟩
    · simp only [List.mem_cons, List.not_mem_nil, or_false] at hc
      rcases hc with rfl | rfl
      · exact Fwd.agg (fd_shopC s (by decide) (by decide))
      · exact (NB.int _ _).fwd _
    · rcases List.mem_append.1 hx with hx | hx
      · simp only [List.mem_cons, List.not_mem_nil, or_false] at hx
        rcases hx with rfl | rfl
        · exact fd_cs _ _
        · exact fd_shopC s (by decide) (by decide)
      · exact fd_new s (by decide) x hx
  · obtain ⟨rfl, rfl⟩ := hM
    rw [hlen]; exact k
end Go.Proofs.Ytdahbimllmapkaa.raspPlays
