/- rasp's functions and the law's, by the logic of trees: what each gives back for all that it may be given. -/
import Derived.Test.YtdahbimllmapkaaVamRaspMore5
namespace Go.Proofs.Ytdahbimllmapkaa.raspMore
open Vam
set_option linter.unusedVariables false
set_option linter.unusedSimpArgs false
set_option linter.constructorNameAsVariable false
variable {is : FuncId → Bool} {orc : Known}
noncomputable def b8 : Code := (Try.f8.body).getD .skip
theorem body8 : bodyOf Try.prog 8 = some (203, b8, [.tmp 8]) := by kernel_rfl
theorem pure8 : pureFn Try.prog 8 = false := by kernel_rfl
set_option maxHeartbeats 16000000 in
theorem ret8 (hi : Off is) (s : Shop) (q : Tri) (a b n : Int) (r20 : RetP Try.prog is orc 20 [] (.bool true)) : RetP Try.prog is orc 8 [s.u, q.u, .agg [.int .i64 a, .int .i64 b], .int .i64 n] (.bool true) := by
  have hd4 : ∀ u ∈ [s.u, q.u, .agg [.int .i64 a, .int .i64 b], .int .i64 n], Dat 8 u := fun u hu => by
    simp only [List.mem_cons, List.not_mem_nil, or_false] at hu
    rcases hu with rfl | rfl | rfl | rfl
    · exact dat_shop s 5
    · exact .agg _ _ (dat_l3 (.int _ _ _) (.int _ _ _) (.int _ _ _))
    · exact dat_span _ _ _
    · exact .int _ _ _
  refine ret_of_shared body8 pure8 rfl rfl (fun u hu => ⟨(hd4 u hu).nb, (hd4 u hu).own⟩) (Dat.bool 8 true).nb ?_
  by_cases hv : checkR s.tools s.keys s.flo s.fhi = 0
  · have hk := ok_chk hv
    have hnt := hk.nt
    have hmb : 0 ≤ b % 31 ∧ b % 31 ≤ 30 := by omega
    have hdr := draw_b (a := b % 31) (b := 30) n (by omega)
    have q36 := ret36 (orc := orc) hi (b % 31) 30 n (by omega)
    generalize drawI (b % 31) 30 n = m at hdr q36
    have hm : metB m = true := by unfold metB; simp; omega
    have q40 := ret40 (orc := orc) hi n s.tools.length (by omega) (by omega)
    have hkk : 0 ≤ n % (s.tools.length : Int) ∧ n % (s.tools.length : Int) < s.tools.length := ⟨Int.emod_nonneg _ (by omega), Int.emod_lt_of_pos _ (by omega)⟩
    generalize n % (s.tools.length : Int) = k at hkk q40
    obtain ⟨j, rfl⟩ : ∃ j : Nat, k = j := ⟨k.toNat, by omega⟩
    obtain ⟨t, hq⟩ : ∃ t, s.tools[j]? = some t := ⟨s.tools[j], List.getElem?_eq_getElem (by omega)⟩
    have hjl : j < s.tools.length := by omega
    have hb := hk.tools t (List.mem_of_getElem? hq)
    have hdc := draw_b (a := 1) (b := t.c) n hb.2.2.2.1
    have q36c := ret36 (orc := orc) hi 1 t.c n (by omega)
    generalize drawI 1 t.c n = co at hdc q36c
    have hk1 := set_ok hk (i := j) (q := ⟨t.a, t.b, co⟩) (by show -30 ≤ t.a ∧ t.a ≤ t.b ∧ t.b ≤ 30 ∧ 1 ≤ co ∧ co ≤ 10; omega)
    have he1 := set_easier hk (q := ⟨t.a, t.b, co⟩) (w := true) hq (by show t.a ≤ t.a ∧ t.a ≤ t.b ∧ t.b ≤ t.b ∧ co ≤ t.c ∧ (true = false → _); exact ⟨by omega, by omega, by omega, by omega, fun h => by cases h⟩)
    have hset : (triF s.tools).take (0 + ((j : Int)).toNat * 3) ++ [.int .i64 t.a, .int .i64 t.b, .int .i64 co] ++ (triF s.tools).drop (0 + ((j : Int)).toNat * 3 + 3) = triF (s.tools.set j ⟨t.a, t.b, co⟩) := by
      rw [Int.toNat_natCast, Nat.zero_add]; exact triF_set s.tools j ⟨t.a, t.b, co⟩ hjl
    have hfl := triF_len s.tools
    have hfs : flatU (trisU (s.tools.set j ⟨t.a, t.b, co⟩)) = (((triF (s.tools.set j ⟨t.a, t.b, co⟩)).map dg).drop 0).take (s.tools.length * 3) := by
      rw [triF_dg, triF_flat, List.drop_zero, List.take_of_length_le (by rw [triF_len, List.length_set]; exact Nat.le_refl _)]
    have hez : ∀ e ∈ trisU (s.tools.set j ⟨t.a, t.b, co⟩), (cellsU e).length = 3 := fun e he => by
      obtain ⟨q, _, rfl⟩ := List.mem_map.1 he; rfl
    have hel : (trisU (s.tools.set j ⟨t.a, t.b, co⟩)).length = s.tools.length := by simp
    have hle : 0 + s.tools.length * 3 ≤ ((triF (s.tools.set j ⟨t.a, t.b, co⟩)).map dg).length := by rw [List.length_map, triF_len, List.length_set]; omega
    have hap : UW (.u (.lst .own 3 (trisU s.tools ++ [q.u]))) (.u (.lst .ro 3 (trisU (s.tools ++ [q])))) := by
      rw [show trisU (s.tools ++ [q]) = trisU s.tools ++ [q.u] from List.map_append ..]; exact .ro _ _ _
    have l1 := cho_more hk (w := true) (off := a % 121 - 60) hmb.1 hdr.1
    have l2 := cho_more hk (w := false) (off := a % 121 - 60) hmb.1 hdr.1
    have l3 := cho_best hk 31 (a % 121 - 60) (b % 31) hmb.1 (by omega)
    have l4 := cho_easier hk hk1 he1 31 (a % 121 - 60) (b % 31) (b % 31) hmb.1 (by omega) (Int.le_refl _)
    have c0 := (cho_b s true (a % 121 - 60) (b % 31)).2.1
    have c1 := (cho_b s false (a % 121 - 60) (b % 31)).2.1
    have qa := ret14g (orc := orc) hi hk (st_off a) (st_met b)
    have qb := ret14g (orc := orc) hi hk (st_off a) hm
    have qc := ret18 (orc := orc) hi hk (st_off a) (st_met b)
    have qd := ret18 (orc := orc) hi hk (st_off a) hm
    have qe := ret14g (orc := orc) hi hk1 (st_off a) (st_met b)
    have q2 : ∃ x1 x2 x3 : Int, RetP Try.prog is orc 14 [Shop.u ⟨s.tools ++ [q], s.flo, s.fhi, s.keys⟩, .int .i64 (a % 121 - 60), .int .i64 (b % 31)] (.tup [.int .i64 x1, .int .i64 x2, .int .i64 x3]) ∧ (x3 = 30 ∨ ((cho s true (a % 121 - 60) (b % 31)).2 = 31 ∧ x3 = 4) ∨ (x3 = 0 ∧ ((cho s true (a % 121 - 60) (b % 31)).2 ≠ 31 → x2 ≤ (cho s true (a % 121 - 60) (b % 31)).2))) := by
      rcases check_cases (s.tools ++ [q]) s.keys s.flo s.fhi with h | h
      · have hk2 : SOk ⟨s.tools ++ [q], s.flo, s.fhi, s.keys⟩ := ok_chk h
        have l5 := cho_easier hk hk2 (app_easier hk (w := true)) 31 (a % 121 - 60) (b % 31) (b % 31) hmb.1 (by omega) (Int.le_refl _)
        have := ret14g (orc := orc) hi hk2 (st_off a) (st_met b)
        generalize cho ⟨s.tools ++ [q], s.flo, s.fhi, s.keys⟩ true (a % 121 - 60) (b % 31) = d at this l5
        by_cases h31 : d.2 = 31
        · simp only [nxt, nxn, nxe, if_pos h31] at this
          exact ⟨_, _, _, this, .inr (.inl ⟨by omega, rfl⟩)⟩
        · simp only [nxt, nxn, nxe, if_neg h31] at this
          exact ⟨_, _, _, this, .inr (.inr ⟨rfl, fun _ => l5⟩)⟩
      · have hr : askR ⟨s.tools ++ [q], s.flo, s.fhi, s.keys⟩ (offB (a % 121 - 60) && metB (b % 31)) = 30 := by
          unfold askR
          show (if checkR (s.tools ++ [q]) s.keys s.flo s.fhi ≠ 0 then checkR (s.tools ++ [q]) s.keys s.flo s.fhi else _) = 30
          rw [h]; rfl
        have := ret14x (orc := orc) hi (s := ⟨s.tools ++ [q], s.flo, s.fhi, s.keys⟩) (off := a % 121 - 60) (metal := b % 31) (by rw [hr]; decide)
        rw [hr] at this
        exact ⟨_, _, _, this, .inl rfl⟩
    obtain ⟨x1, x2, x3, qf, hx⟩ := q2
    generalize cho s true (a % 121 - 60) (b % 31) = A at c0 qa l1 l3 l4 hx
    generalize cho s true (a % 121 - 60) m = B at qb l1
    generalize cho s false (a % 121 - 60) (b % 31) = C at qc l2 l3 c1
    generalize cho s false (a % 121 - 60) m = D at qd l2
    generalize cho ⟨s.tools.set j ⟨t.a, t.b, co⟩, s.flo, s.fhi, s.keys⟩ true (a % 121 - 60) (b % 31) = G at qe l4
    by_cases hA : A.2 = 31
    · simp only [nxt, nxn, nxe, if_pos hA] at qa
      have hx' : x3 = 30 ∨ x3 = 4 ∨ x3 = 0 := by omega
      by_cases hC : C.2 = 31
      · simp only [unN, unE, if_pos hC] at qc
        refine k_seq (k_region ?_)
        refine o_box rfl rfl ?_
        refine o_box rfl rfl ?_
        refine o_box rfl rfl ?_
        refine o_assign rfl ?_
        refine o_nil ?_
        refine k_gen [(3, .int .i64 n), (4, U.box 0 0), (5, U.box 1 0), (6, U.box 2 0)] ([SB.box [U.lst Kd.ro 3 (trisU (Shop.tools s)), .int .i64 (Shop.flo s), .int .i64 (Shop.fhi s), U.lst Kd.ro 3 (trisU (Shop.keys s))], SB.box [.int .i64 (Tri.a q), .int .i64 (Tri.b q), .int .i64 (Tri.c q)], SB.box [.int .i64 a, .int .i64 b]]) (.cons rfl (.cons rfl (.cons rfl (.cons rfl (.nil rfl))))) rfl fun fr => ?_
        refine k_seq ?_
        refine k_seq (k_region ?_)
        refine o_loadN rfl rfl rfl sh27 rfl ?_
        refine o_call rfl (ret32 hi hk) (.lrefl _) ?_
        refine o_not rfl rfl ?_
        refine o_nil ?_
        refine k_cF rfl rfl ?_
        refine k_skip ?_
        refine k_seq (k_region ?_)
        refine o_loadN rfl rfl rfl sh28 rfl ?_
        refine o_call rfl (ret33 hi ..) (.lrefl _) ?_
        refine o_move rfl ?_
        refine o_extract rfl rfl rfl ?_
        refine o_extract rfl rfl rfl ?_
        refine o_assign rfl ?_
        refine o_assign rfl ?_
        refine o_nil ?_
        refine k_seq (k_region ?_)
        refine o_move rfl ?_
        refine o_call rfl (ret39 hi ..) (.lrefl _) ?_
        refine o_move rfl ?_
        refine o_call rfl (q36) (.lrefl _) ?_
        refine o_assign rfl ?_
        refine o_nil ?_
        refine k_gen [(3, .int .i64 n), (4, U.box 0 0), (5, U.box 1 0), (9, .int .i64 (a % (121 : Int) - (60 : Int))), (10, .int .i64 (b % (31 : Int))), (11, .int .i64 m)] ([SB.box [U.lst Kd.ro 3 (trisU (Shop.tools s)), .int .i64 (Shop.flo s), .int .i64 (Shop.fhi s), U.lst Kd.ro 3 (trisU (Shop.keys s))], SB.box [.int .i64 (Tri.a q), .int .i64 (Tri.b q), .int .i64 (Tri.c q)], SB.box [.int .i64 a, .int .i64 b]]) (.cons rfl (.cons rfl (.cons rfl (.cons rfl (.cons rfl (.cons rfl (.nil rfl))))))) rfl fun fr => ?_
        refine k_seq (k_region ?_)
        refine o_loadN rfl rfl rfl sh27 rfl ?_
        refine o_move rfl ?_
        refine o_move rfl ?_
        refine o_call rfl (qa) (.lrefl _) ?_
        refine o_move rfl ?_
        refine o_extract rfl rfl rfl ?_
        refine o_extract rfl rfl rfl ?_
        refine o_extract rfl rfl rfl ?_
        refine o_assign rfl ?_
        refine o_assign rfl ?_
        refine o_assign rfl ?_
        refine o_nil ?_
        refine k_seq (k_region ?_)
        refine o_loadN rfl rfl rfl sh27 rfl ?_
        refine o_move rfl ?_
        refine o_move rfl ?_
        refine o_call rfl (qb) (.lrefl _) ?_
        refine o_move rfl ?_
        refine o_extract rfl rfl rfl ?_
        refine o_extract rfl rfl rfl ?_
        refine o_extract rfl rfl rfl ?_
        refine o_assign rfl ?_
        refine o_assign rfl ?_
        refine o_assign rfl ?_
        refine o_nil ?_
        refine k_gen [(3, .int .i64 n), (4, U.box 0 0), (5, U.box 1 0), (9, .int .i64 (a % (121 : Int) - (60 : Int))), (10, .int .i64 (b % (31 : Int))), (11, .int .i64 m), (13, .int .i64 0), (14, .int .i64 4), (16, .int .i64 (nxn B)), (17, .int .i64 (nxe B))] ([SB.box [U.lst Kd.ro 3 (trisU (Shop.tools s)), .int .i64 (Shop.flo s), .int .i64 (Shop.fhi s), U.lst Kd.ro 3 (trisU (Shop.keys s))], SB.box [.int .i64 (Tri.a q), .int .i64 (Tri.b q), .int .i64 (Tri.c q)], SB.box [.int .i64 a, .int .i64 b]]) (.cons rfl (.cons rfl (.cons rfl (.cons rfl (.cons rfl (.cons rfl (.cons rfl (.cons rfl (.cons rfl (.cons rfl (.nil rfl))))))))))) rfl fun fr => ?_
        refine k_seq (k_region ?_)
        refine o_loadN rfl rfl rfl sh27 rfl ?_
        refine o_move rfl ?_
        refine o_move rfl ?_
        refine o_call rfl (qc) (.lrefl _) ?_
        refine o_move rfl ?_
        refine o_extract rfl rfl rfl ?_
        refine o_extract rfl rfl rfl ?_
        refine o_assign rfl ?_
        refine o_assign rfl ?_
        refine o_nil ?_
        refine k_seq (k_region ?_)
        refine o_loadN rfl rfl rfl sh27 rfl ?_
        refine o_move rfl ?_
        refine o_move rfl ?_
        refine o_call rfl (qd) (.lrefl _) ?_
        refine o_move rfl ?_
        refine o_extract rfl rfl rfl ?_
        refine o_extract rfl rfl rfl ?_
        refine o_assign rfl ?_
        refine o_assign rfl ?_
        refine o_nil ?_
        refine k_gen [(3, .int .i64 n), (4, U.box 0 0), (5, U.box 1 0), (9, .int .i64 (a % (121 : Int) - (60 : Int))), (10, .int .i64 (b % (31 : Int))), (13, .int .i64 0), (14, .int .i64 4), (16, .int .i64 (nxn B)), (17, .int .i64 (nxe B)), (18, .int .i64 0), (19, .int .i64 4), (20, .int .i64 (unN (Prod.snd D))), (21, .int .i64 (unE (Prod.snd D)))] ([SB.box [U.lst Kd.ro 3 (trisU (Shop.tools s)), .int .i64 (Shop.flo s), .int .i64 (Shop.fhi s), U.lst Kd.ro 3 (trisU (Shop.keys s))], SB.box [.int .i64 (Tri.a q), .int .i64 (Tri.b q), .int .i64 (Tri.c q)], SB.box [.int .i64 a, .int .i64 b]]) (.cons rfl (.cons rfl (.cons rfl (.cons rfl (.cons rfl (.cons rfl (.cons rfl (.cons rfl (.cons rfl (.cons rfl (.cons rfl (.cons rfl (.cons rfl (.nil rfl)))))))))))))) rfl fun fr => ?_
        refine k_seq ?_
        refine k_seq (k_region ?_)
        refine o_move rfl ?_
        refine o_eql rfl rfl rfl ?_
        refine o_move rfl ?_
        refine o_gS rfl rfl rfl rfl rfl ?_
        refine o_gS rfl rfl rfl rfl rfl ?_
        refine o_gS rfl rfl rfl rfl rfl ?_
        refine o_dead rfl rfl rfl rfl ?_
        refine o_dead rfl rfl rfl rfl ?_
        refine o_dead rfl rfl rfl rfl ?_
        refine o_genA [(3, .int .i64 n), (4, U.box 0 0), (5, U.box 1 0), (9, .int .i64 (a % (121 : Int) - (60 : Int))), (10, .int .i64 (b % (31 : Int))), (13, .int .i64 0), (14, .int .i64 4), (18, .int .i64 0), (19, .int .i64 4), (20, .int .i64 (unN (Prod.snd D))), (21, .int .i64 (unE (Prod.snd D))), (70, U.bool (Decidable.decide ((4 : Int) = (0 : Int)))), (73, U.tup []), (76, U.tup [])] [] ([SB.box [U.lst Kd.ro 3 (trisU (Shop.tools s)), .int .i64 (Shop.flo s), .int .i64 (Shop.fhi s), U.lst Kd.ro 3 (trisU (Shop.keys s))], SB.box [.int .i64 (Tri.a q), .int .i64 (Tri.b q), .int .i64 (Tri.c q)], SB.box [.int .i64 a, .int .i64 b]]) (.cons rfl (.cons rfl (.cons rfl (.cons rfl (.cons rfl (.cons rfl (.cons rfl (.cons rfl (.cons rfl (.cons rfl (.cons rfl (.cons rfl (.cons rfl (.cons rfl (.nil rfl))))))))))))))) rfl rfl fun fr => ?_
        refine o_gS rfl rfl rfl rfl rfl ?_
        refine o_pickF rfl rfl rfl ?_
        refine o_move rfl ?_
        refine o_gD rfl rfl rfl rfl rfl ?_
        refine o_move rfl ?_
        refine o_gD rfl rfl rfl rfl rfl ?_
        refine o_eql rfl rfl rfl ?_
        refine o_gD rfl rfl rfl rfl rfl ?_
        refine o_move rfl ?_
        refine o_gS rfl rfl rfl rfl rfl ?_
        refine o_gS rfl rfl rfl rfl rfl ?_
        refine o_gS rfl rfl rfl rfl rfl ?_
        refine o_genA [(3, .int .i64 n), (4, U.box 0 0), (5, U.box 1 0), (9, .int .i64 (a % (121 : Int) - (60 : Int))), (10, .int .i64 (b % (31 : Int))), (13, .int .i64 0), (14, .int .i64 4), (18, .int .i64 0), (19, .int .i64 4), (20, .int .i64 (unN (Prod.snd D))), (79, U.bool Bool.false), (82, U.bool (Decidable.decide ((4 : Int) = (0 : Int)))), (85, U.tup [])] [] ([SB.box [U.lst Kd.ro 3 (trisU (Shop.tools s)), .int .i64 (Shop.flo s), .int .i64 (Shop.fhi s), U.lst Kd.ro 3 (trisU (Shop.keys s))], SB.box [.int .i64 (Tri.a q), .int .i64 (Tri.b q), .int .i64 (Tri.c q)], SB.box [.int .i64 a, .int .i64 b]]) (.cons rfl (.cons rfl (.cons rfl (.cons rfl (.cons rfl (.cons rfl (.cons rfl (.cons rfl (.cons rfl (.cons rfl (.cons rfl (.cons rfl (.cons rfl (.nil rfl)))))))))))))) rfl rfl fun fr => ?_
        refine o_dead rfl rfl rfl rfl ?_
        refine o_dead rfl rfl rfl rfl ?_
        refine o_dead rfl rfl rfl rfl ?_
        refine o_gS rfl rfl rfl rfl rfl ?_
        refine o_gD rfl rfl rfl rfl rfl ?_
        refine o_pickF rfl rfl rfl ?_
        refine o_pickF rfl rfl rfl ?_
        refine o_move rfl ?_
        refine o_gD rfl rfl rfl rfl rfl ?_
        refine o_move rfl ?_
        refine o_gD rfl rfl rfl rfl rfl ?_
        refine o_eql rfl rfl rfl ?_
        refine o_genA [(3, .int .i64 n), (4, U.box 0 0), (5, U.box 1 0), (9, .int .i64 (a % (121 : Int) - (60 : Int))), (10, .int .i64 (b % (31 : Int))), (13, .int .i64 0), (14, .int .i64 4), (18, .int .i64 0), (19, .int .i64 4), (92, U.bool Bool.false), (94, U.bool (Decidable.decide ((4 : Int) = (0 : Int))))] [] ([SB.box [U.lst Kd.ro 3 (trisU (Shop.tools s)), .int .i64 (Shop.flo s), .int .i64 (Shop.fhi s), U.lst Kd.ro 3 (trisU (Shop.keys s))], SB.box [.int .i64 (Tri.a q), .int .i64 (Tri.b q), .int .i64 (Tri.c q)], SB.box [.int .i64 a, .int .i64 b]]) (.cons rfl (.cons rfl (.cons rfl (.cons rfl (.cons rfl (.cons rfl (.cons rfl (.cons rfl (.cons rfl (.cons rfl (.cons rfl (.nil rfl)))))))))))) rfl rfl fun fr => ?_
        refine o_gD rfl rfl rfl rfl rfl ?_
        refine o_genA [(3, .int .i64 n), (4, U.box 0 0), (5, U.box 1 0), (9, .int .i64 (a % (121 : Int) - (60 : Int))), (10, .int .i64 (b % (31 : Int))), (13, .int .i64 0), (14, .int .i64 4), (18, .int .i64 0), (19, .int .i64 4), (92, U.bool Bool.false), (94, U.bool (Decidable.decide ((4 : Int) = (0 : Int))))] [] ([SB.box [U.lst Kd.ro 3 (trisU (Shop.tools s)), .int .i64 (Shop.flo s), .int .i64 (Shop.fhi s), U.lst Kd.ro 3 (trisU (Shop.keys s))], SB.box [.int .i64 (Tri.a q), .int .i64 (Tri.b q), .int .i64 (Tri.c q)], SB.box [.int .i64 a, .int .i64 b]]) (.cons rfl (.cons rfl (.cons rfl (.cons rfl (.cons rfl (.cons rfl (.cons rfl (.cons rfl (.cons rfl (.cons rfl (.cons rfl (.nil rfl)))))))))))) rfl rfl fun fr => ?_
        refine o_move rfl ?_
        refine o_gS rfl rfl rfl rfl rfl ?_
        refine o_gS rfl rfl rfl rfl rfl ?_
        refine o_gS rfl rfl rfl rfl rfl ?_
        refine o_dead rfl rfl rfl rfl ?_
        refine o_dead rfl rfl rfl rfl ?_
        refine o_dead rfl rfl rfl rfl ?_
        refine o_gS rfl rfl rfl rfl rfl ?_
        refine o_gD rfl rfl rfl rfl rfl ?_
        refine o_pickF rfl rfl rfl ?_
        refine o_genA [(3, .int .i64 n), (4, U.box 0 0), (5, U.box 1 0), (9, .int .i64 (a % (121 : Int) - (60 : Int))), (10, .int .i64 (b % (31 : Int))), (13, .int .i64 0), (14, .int .i64 4), (92, U.bool Bool.false), (103, U.bool Bool.false)] [] ([SB.box [U.lst Kd.ro 3 (trisU (Shop.tools s)), .int .i64 (Shop.flo s), .int .i64 (Shop.fhi s), U.lst Kd.ro 3 (trisU (Shop.keys s))], SB.box [.int .i64 (Tri.a q), .int .i64 (Tri.b q), .int .i64 (Tri.c q)], SB.box [.int .i64 a, .int .i64 b]]) (.cons rfl (.cons rfl (.cons rfl (.cons rfl (.cons rfl (.cons rfl (.cons rfl (.cons rfl (.cons rfl (.nil rfl)))))))))) rfl rfl fun fr => ?_
        refine o_pickF rfl rfl rfl ?_
        refine o_nil ?_
        refine k_gen [(3, .int .i64 n), (4, U.box 0 0), (5, U.box 1 0), (9, .int .i64 (a % (121 : Int) - (60 : Int))), (10, .int .i64 (b % (31 : Int))), (13, .int .i64 0), (14, .int .i64 4), (104, U.bool Bool.false)] ([SB.box [U.lst Kd.ro 3 (trisU (Shop.tools s)), .int .i64 (Shop.flo s), .int .i64 (Shop.fhi s), U.lst Kd.ro 3 (trisU (Shop.keys s))], SB.box [.int .i64 (Tri.a q), .int .i64 (Tri.b q), .int .i64 (Tri.c q)], SB.box [.int .i64 a, .int .i64 b]]) (.cons rfl (.cons rfl (.cons rfl (.cons rfl (.cons rfl (.cons rfl (.cons rfl (.cons rfl (.nil rfl))))))))) rfl fun fr => ?_
        refine k_cF rfl rfl ?_
        refine k_skip ?_
        refine k_seq (k_region ?_)
        refine o_loadN rfl rfl rfl sh27 rfl ?_
        refine o_alloc rfl ze27 ?_
        refine o_storeN rfl rfl sh27 rfl rfl rfl rfl rfl ?_
        refine o_nil ?_
        refine k_gen [(3, .int .i64 n), (4, U.box 0 0), (5, U.box 1 0), (9, .int .i64 (a % (121 : Int) - (60 : Int))), (10, .int .i64 (b % (31 : Int))), (13, .int .i64 0), (14, .int .i64 4), (22, U.box 3 0)] ([SB.box [U.lst Kd.ro 3 (trisU (Shop.tools s)), .int .i64 (Shop.flo s), .int .i64 (Shop.fhi s), U.lst Kd.ro 3 (trisU (Shop.keys s))], SB.box [.int .i64 (Tri.a q), .int .i64 (Tri.b q), .int .i64 (Tri.c q)], SB.box [.int .i64 a, .int .i64 b], SB.box [U.lst Kd.ro 3 (trisU (Shop.tools s)), .int .i64 (Shop.flo s), .int .i64 (Shop.fhi s), U.lst Kd.ro 3 (trisU (Shop.keys s))]]) (.cons rfl (.cons rfl (.cons rfl (.cons rfl (.cons rfl (.cons rfl (.cons rfl (.cons rfl (.nil rfl))))))))) rfl fun fr => ?_
        refine k_seq (k_region ?_)
        refine o_lit (es := []) rfl ty22 ze52 cl52 rfl rfl rfl rfl rfl rfl rfl rfl ?_
        refine o_faddr rfl rfl fld27_0 ?_
        refine o_load1 rfl rfl rfl sh22 rfl ?_
        refine o_appendB rfl ap22_22 rfl rfl (by simp) (by simp) (trisU_one _) (by rw [triF_flat, triF_dg]) (List.length_map _) (by omega) (by omega) ?_
        refine o_faddr rfl rfl fld27_0 ?_
        refine o_store1 rfl rfl sh22 rfl rfl ?_
        refine o_nil ?_
        refine k_gen [(3, .int .i64 n), (4, U.box 0 0), (5, U.box 1 0), (9, .int .i64 (a % (121 : Int) - (60 : Int))), (10, .int .i64 (b % (31 : Int))), (13, .int .i64 0), (14, .int .i64 4), (22, U.box 3 0)] ([SB.box [U.lst Kd.ro 3 (trisU (Shop.tools s)), .int .i64 (Shop.flo s), .int .i64 (Shop.fhi s), U.lst Kd.ro 3 (trisU (Shop.keys s))], SB.box [.int .i64 (Tri.a q), .int .i64 (Tri.b q), .int .i64 (Tri.c q)], SB.box [.int .i64 a, .int .i64 b], SB.box [U.sl 4 0 (List.length (Shop.tools s)) 3, .int .i64 (Shop.flo s), .int .i64 (Shop.fhi s), U.lst Kd.ro 3 (trisU (Shop.keys s))], SB.box (triF (Shop.tools s))]) (.cons rfl (.cons rfl (.cons rfl (.cons rfl (.cons rfl (.cons rfl (.cons rfl (.cons rfl (.nil rfl))))))))) rfl fun fr => ?_
        refine k_seq (k_region ?_)
        refine o_move rfl ?_
        refine o_faddr rfl rfl fld27_0 ?_
        refine o_load1 rfl rfl rfl sh22 rfl ?_
        refine o_len rfl ty22 rfl (List.length_map _) ?_
        refine o_call rfl (q40) (.lrefl _) ?_
        refine o_assign rfl ?_
        refine o_nil ?_
        refine k_seq (k_region ?_)
        refine o_faddr rfl rfl fld27_0 ?_
        refine o_load1 rfl rfl rfl sh22 rfl ?_
        refine o_move rfl ?_
        refine o_idx (u := (t).u) rfl ty22 rfl rfl (Int.natCast_nonneg _) (by simp [hq]) cl52 ?_
        refine o_loadRN rfl rfl sh52 rfl ?_
        refine o_alloc rfl ze52 ?_
        refine o_storeN rfl rfl sh52 rfl rfl rfl rfl rfl ?_
        refine o_nil ?_
        refine k_gen [(3, .int .i64 n), (4, U.box 0 0), (5, U.box 1 0), (9, .int .i64 (a % (121 : Int) - (60 : Int))), (10, .int .i64 (b % (31 : Int))), (13, .int .i64 0), (14, .int .i64 4), (22, U.box 3 0), (23, .int .i64 ↑j), (24, U.box 5 0)] ([SB.box [U.lst Kd.ro 3 (trisU (Shop.tools s)), .int .i64 (Shop.flo s), .int .i64 (Shop.fhi s), U.lst Kd.ro 3 (trisU (Shop.keys s))], SB.box [.int .i64 (Tri.a q), .int .i64 (Tri.b q), .int .i64 (Tri.c q)], SB.box [.int .i64 a, .int .i64 b], SB.box [U.sl 4 0 (List.length (Shop.tools s)) 3, .int .i64 (Shop.flo s), .int .i64 (Shop.fhi s), U.lst Kd.ro 3 (trisU (Shop.keys s))], SB.box (triF (Shop.tools s)), SB.box [.int .i64 (Tri.a t), .int .i64 (Tri.b t), .int .i64 (Tri.c t)]]) (.cons rfl (.cons rfl (.cons rfl (.cons rfl (.cons rfl (.cons rfl (.cons rfl (.cons rfl (.cons rfl (.cons rfl (.nil rfl))))))))))) rfl fun fr => ?_
        refine k_seq (k_region ?_)
        refine o_faddr rfl rfl fld52_1 ?_
        refine o_load1 rfl rfl rfl sh3 rfl ?_
        refine o_call rfl (ret39 hi ..) (.lrefl _) ?_
        refine o_move rfl ?_
        refine o_call rfl (q36c) (.lrefl _) ?_
        refine o_faddr rfl rfl fld52_1 ?_
        refine o_store1 rfl rfl sh3 rfl rfl ?_
        refine o_nil ?_
        refine k_gen [(4, U.box 0 0), (5, U.box 1 0), (9, .int .i64 (a % (121 : Int) - (60 : Int))), (10, .int .i64 (b % (31 : Int))), (13, .int .i64 0), (14, .int .i64 4), (22, U.box 3 0), (23, .int .i64 ↑j), (24, U.box 5 0)] ([SB.box [U.lst Kd.ro 3 (trisU (Shop.tools s)), .int .i64 (Shop.flo s), .int .i64 (Shop.fhi s), U.lst Kd.ro 3 (trisU (Shop.keys s))], SB.box [.int .i64 (Tri.a q), .int .i64 (Tri.b q), .int .i64 (Tri.c q)], SB.box [.int .i64 a, .int .i64 b], SB.box [U.sl 4 0 (List.length (Shop.tools s)) 3, .int .i64 (Shop.flo s), .int .i64 (Shop.fhi s), U.lst Kd.ro 3 (trisU (Shop.keys s))], SB.box (triF (Shop.tools s)), SB.box [.int .i64 (Tri.a t), .int .i64 (Tri.b t), .int .i64 co]]) (.cons rfl (.cons rfl (.cons rfl (.cons rfl (.cons rfl (.cons rfl (.cons rfl (.cons rfl (.cons rfl (.nil rfl)))))))))) rfl fun fr => ?_
        refine k_seq (k_region ?_)
        refine o_faddr rfl rfl fld27_0 ?_
        refine o_load1 rfl rfl rfl sh22 rfl ?_
        refine o_move rfl ?_
        refine o_loadN rfl rfl rfl sh52 rfl ?_
        refine o_idxS rfl ty22 rfl rfl (Int.natCast_nonneg _) (by omega) cl52 ?_
        refine o_storeNW rfl rfl sh52 rfl rfl rfl (by rw [hfl]; omega) rfl hset ?_
        refine o_nil ?_
        refine k_gen [(4, U.box 0 0), (5, U.box 1 0), (9, .int .i64 (a % (121 : Int) - (60 : Int))), (10, .int .i64 (b % (31 : Int))), (13, .int .i64 0), (14, .int .i64 4), (22, U.box 3 0)] ([SB.box [U.lst Kd.ro 3 (trisU (Shop.tools s)), .int .i64 (Shop.flo s), .int .i64 (Shop.fhi s), U.lst Kd.ro 3 (trisU (Shop.keys s))], SB.box [.int .i64 (Tri.a q), .int .i64 (Tri.b q), .int .i64 (Tri.c q)], SB.box [.int .i64 a, .int .i64 b], SB.box [U.sl 4 0 (List.length (Shop.tools s)) 3, .int .i64 (Shop.flo s), .int .i64 (Shop.fhi s), U.lst Kd.ro 3 (trisU (Shop.keys s))], SB.box (triF (List.set (Shop.tools s) j { a := Tri.a t, b := Tri.b t, c := co })), SB.box [.int .i64 (Tri.a t), .int .i64 (Tri.b t), .int .i64 co]]) (.cons rfl (.cons rfl (.cons rfl (.cons rfl (.cons rfl (.cons rfl (.cons rfl (.nil rfl)))))))) rfl fun fr => ?_
        refine k_seq (k_region ?_)
        refine o_frz (a := 4) rfl ?_
        refine o_loadN rfl rfl rfl sh27 rfl ?_
        refine o_see 133 rfl (fun _ => rfl) (.agg _ _ (.lcons _ _ _ _ (.sl _ _ _ _ _ _ rfl hfs hez hel hle) (.lrefl _))) ?_
        refine o_move rfl ?_
        refine o_move rfl ?_
        refine o_call rfl (qe) (.lrefl _) ?_
        refine o_move rfl ?_
        refine o_extract rfl rfl rfl ?_
        refine o_extract rfl rfl rfl ?_
        refine o_extract rfl rfl rfl ?_
        refine o_assign rfl ?_
        refine o_assign rfl ?_
        refine o_nil ?_
        refine k_gen [(4, U.box 0 0), (5, U.box 1 0), (9, .int .i64 (a % (121 : Int) - (60 : Int))), (10, .int .i64 (b % (31 : Int))), (13, .int .i64 0), (14, .int .i64 4), (16, .int .i64 (nxn G)), (17, .int .i64 (nxe G)), (22, U.box 3 0)] ([SB.box [U.lst Kd.ro 3 (trisU (Shop.tools s)), .int .i64 (Shop.flo s), .int .i64 (Shop.fhi s), U.lst Kd.ro 3 (trisU (Shop.keys s))], SB.box [.int .i64 (Tri.a q), .int .i64 (Tri.b q), .int .i64 (Tri.c q)], SB.box [.int .i64 a, .int .i64 b], SB.box [U.sl 4 0 (List.length (Shop.tools s)) 3, .int .i64 (Shop.flo s), .int .i64 (Shop.fhi s), U.lst Kd.ro 3 (trisU (Shop.keys s))], SB.froz (List.map dg (triF (List.set (Shop.tools s) j { a := Tri.a t, b := Tri.b t, c := co }))), SB.box [.int .i64 (Tri.a t), .int .i64 (Tri.b t), .int .i64 co]]) (.cons rfl (.cons rfl (.cons rfl (.cons rfl (.cons rfl (.cons rfl (.cons rfl (.cons rfl (.cons rfl (.nil rfl)))))))))) rfl fun fr => ?_
        refine k_seq ?_
        refine k_seq (k_region ?_)
        refine o_move rfl ?_
        refine o_eql rfl rfl rfl ?_
        refine o_move rfl ?_
        refine o_gS rfl rfl rfl rfl rfl ?_
        refine o_gS rfl rfl rfl rfl rfl ?_
        refine o_gS rfl rfl rfl rfl rfl ?_
        refine o_dead rfl rfl rfl rfl ?_
        refine o_dead rfl rfl rfl rfl ?_
        refine o_dead rfl rfl rfl rfl ?_
        refine o_gS rfl rfl rfl rfl rfl ?_
        refine o_pickF rfl rfl rfl ?_
        refine o_nil ?_
        refine k_gen [(4, U.box 0 0), (5, U.box 1 0), (9, .int .i64 (a % (121 : Int) - (60 : Int))), (10, .int .i64 (b % (31 : Int))), (13, .int .i64 0), (14, .int .i64 4), (22, U.box 3 0), (150, U.bool Bool.false)] ([SB.box [U.lst Kd.ro 3 (trisU (Shop.tools s)), .int .i64 (Shop.flo s), .int .i64 (Shop.fhi s), U.lst Kd.ro 3 (trisU (Shop.keys s))], SB.box [.int .i64 (Tri.a q), .int .i64 (Tri.b q), .int .i64 (Tri.c q)], SB.box [.int .i64 a, .int .i64 b], SB.box [U.sl 4 0 (List.length (Shop.tools s)) 3, .int .i64 (Shop.flo s), .int .i64 (Shop.fhi s), U.lst Kd.ro 3 (trisU (Shop.keys s))], SB.froz (List.map dg (triF (List.set (Shop.tools s) j { a := Tri.a t, b := Tri.b t, c := co }))), SB.box [.int .i64 (Tri.a t), .int .i64 (Tri.b t), .int .i64 co]]) (.cons rfl (.cons rfl (.cons rfl (.cons rfl (.cons rfl (.cons rfl (.cons rfl (.cons rfl (.nil rfl))))))))) rfl fun fr => ?_
        refine k_cF rfl rfl ?_
        refine k_skip ?_
        refine k_seq ?_
        refine k_seq (k_region ?_)
        refine o_faddr rfl rfl fld27_0 ?_
        refine o_load1 rfl rfl rfl sh22 rfl ?_
        refine o_len rfl ty22 rfl (List.length_map _) ?_
        refine o_eql rfl rfl rfl ?_
        refine o_nil ?_
        refine k_gen [(4, U.box 0 0), (5, U.box 1 0), (9, .int .i64 (a % (121 : Int) - (60 : Int))), (10, .int .i64 (b % (31 : Int))), (13, .int .i64 0), (14, .int .i64 4), (22, U.box 3 0), (154, U.bool (Decidable.decide (↑(List.length (Shop.tools s)) = (4 : Int))))] ([SB.box [U.lst Kd.ro 3 (trisU (Shop.tools s)), .int .i64 (Shop.flo s), .int .i64 (Shop.fhi s), U.lst Kd.ro 3 (trisU (Shop.keys s))], SB.box [.int .i64 (Tri.a q), .int .i64 (Tri.b q), .int .i64 (Tri.c q)], SB.box [.int .i64 a, .int .i64 b], SB.box [U.sl 4 0 (List.length (Shop.tools s)) 3, .int .i64 (Shop.flo s), .int .i64 (Shop.fhi s), U.lst Kd.ro 3 (trisU (Shop.keys s))], SB.froz (List.map dg (triF (List.set (Shop.tools s) j { a := Tri.a t, b := Tri.b t, c := co }))), SB.box [.int .i64 (Tri.a t), .int .i64 (Tri.b t), .int .i64 co]]) (.cons rfl (.cons rfl (.cons rfl (.cons rfl (.cons rfl (.cons rfl (.cons rfl (.cons rfl (.nil rfl))))))))) rfl fun fr => ?_
        refine k_cond rfl (fun h154 => ?_) (fun h154 => ?_)
        · refine k_seq (k_region ?_)
          refine o_call rfl (r20) (.lrefl _) ?_
          refine o_assign rfl ?_
          refine o_nil ?_
          refine k_ret ?_
          refine ⟨.inr rfl, _, .cons _ _ _ _ (.tmp 8) .nil, ?_⟩
          exact .refl _
        · refine k_skip ?_
          refine k_seq (k_region ?_)
          refine o_loadN rfl rfl rfl sh27 rfl ?_
          refine o_storeN rfl rfl sh27 rfl rfl rfl rfl rfl ?_
          refine o_nil ?_
          refine k_gen [(4, U.box 0 0), (5, U.box 1 0), (9, .int .i64 (a % (121 : Int) - (60 : Int))), (10, .int .i64 (b % (31 : Int))), (13, .int .i64 0), (14, .int .i64 4), (22, U.box 3 0)] ([SB.box [U.lst Kd.ro 3 (trisU (Shop.tools s)), .int .i64 (Shop.flo s), .int .i64 (Shop.fhi s), U.lst Kd.ro 3 (trisU (Shop.keys s))], SB.box [.int .i64 (Tri.a q), .int .i64 (Tri.b q), .int .i64 (Tri.c q)], SB.box [.int .i64 a, .int .i64 b], SB.box [U.lst Kd.ro 3 (trisU (Shop.tools s)), .int .i64 (Shop.flo s), .int .i64 (Shop.fhi s), U.lst Kd.ro 3 (trisU (Shop.keys s))], SB.froz (List.map dg (triF (List.set (Shop.tools s) j { a := Tri.a t, b := Tri.b t, c := co }))), SB.box [.int .i64 (Tri.a t), .int .i64 (Tri.b t), .int .i64 co]]) (.cons rfl (.cons rfl (.cons rfl (.cons rfl (.cons rfl (.cons rfl (.cons rfl (.nil rfl)))))))) rfl fun fr => ?_
          refine k_seq ?_
          refine k_draw [.lay, .plain, .read true, .quiet, .read true, .lay, .plain, .plain, .plain] (by kernel_rfl) (by kernel_rfl) (by kernel_rfl) ?_
          refine d_lay (es := []) rfl ty22 ze52 cl52 rfl rfl rfl rfl rfl rfl rfl rfl ?_
          refine d_plain (o_faddr rfl rfl fld27_0 (o_nil rfl)) ?_
          refine d_load rfl (o_load1 rfl rfl rfl sh22 rfl (o_nil rfl)) ?_
          refine d_appendQ rfl ap22_22 rfl rfl (by simp) (by simp) (trisU_one _) (by simp; omega) (by simp; omega) ?_
          refine d_load rfl (o_loadN rfl rfl rfl sh52 rfl (o_nil rfl)) ?_
          refine d_lay (es := [U.agg [.int .i64 (Tri.a q), .int .i64 (Tri.b q), .int .i64 (Tri.c q)]]) rfl ty22 ze52 cl52 rfl rfl rfl rfl rfl rfl rfl rfl ?_
          refine d_plain (o_appendO rfl ap22_22 rfl rfl (by simp) (by simp) (by simp [flatU, cellsU, oneU]) (by simp; omega) (o_nil rfl)) ?_
          refine d_plain (o_faddr rfl rfl fld27_0 (o_nil rfl)) ?_
          refine d_plain (o_store1 rfl rfl sh22 rfl rfl (o_nil rfl)) ?_
          refine d_nil ?_
          refine k_gen [(9, .int .i64 (a % (121 : Int) - (60 : Int))), (10, .int .i64 (b % (31 : Int))), (13, .int .i64 0), (14, .int .i64 4), (22, U.box 3 0)] ([SB.box [U.lst Kd.ro 3 (trisU (Shop.tools s)), .int .i64 (Shop.flo s), .int .i64 (Shop.fhi s), U.lst Kd.ro 3 (trisU (Shop.keys s))], SB.box [.int .i64 (Tri.a q), .int .i64 (Tri.b q), .int .i64 (Tri.c q)], SB.box [.int .i64 a, .int .i64 b], SB.box [U.lst Kd.own 3 (trisU (Shop.tools s) ++ [U.agg [.int .i64 (Tri.a q), .int .i64 (Tri.b q), .int .i64 (Tri.c q)]]), .int .i64 (Shop.flo s), .int .i64 (Shop.fhi s), U.lst Kd.ro 3 (trisU (Shop.keys s))], SB.froz (List.map dg (triF (List.set (Shop.tools s) j { a := Tri.a t, b := Tri.b t, c := co }))), SB.box [.int .i64 (Tri.a t), .int .i64 (Tri.b t), .int .i64 co]]) (.cons rfl (.cons rfl (.cons rfl (.cons rfl (.cons rfl (.nil rfl)))))) rfl fun fr => ?_
          refine k_seq (k_region ?_)
          refine o_loadN rfl rfl rfl sh27 rfl ?_
          refine o_move rfl ?_
          refine o_move rfl ?_
          refine o_call rfl (qf) (.lcons _ _ _ _ (.agg _ _ (.lcons _ _ _ _ hap (.lrefl _))) (.lrefl _)) ?_
          refine o_move rfl ?_
          refine o_extract rfl rfl rfl ?_
          refine o_extract rfl rfl rfl ?_
          refine o_extract rfl rfl rfl ?_
          refine o_assign rfl ?_
          refine o_assign rfl ?_
          refine o_nil ?_
          refine k_gen [(13, .int .i64 0), (14, .int .i64 4), (16, .int .i64 x2), (17, .int .i64 x3)] ([SB.box [U.lst Kd.ro 3 (trisU (Shop.tools s)), .int .i64 (Shop.flo s), .int .i64 (Shop.fhi s), U.lst Kd.ro 3 (trisU (Shop.keys s))], SB.box [.int .i64 (Tri.a q), .int .i64 (Tri.b q), .int .i64 (Tri.c q)], SB.box [.int .i64 a, .int .i64 b], SB.box [U.lst Kd.own 3 (trisU (Shop.tools s) ++ [U.agg [.int .i64 (Tri.a q), .int .i64 (Tri.b q), .int .i64 (Tri.c q)]]), .int .i64 (Shop.flo s), .int .i64 (Shop.fhi s), U.lst Kd.ro 3 (trisU (Shop.keys s))], SB.froz (List.map dg (triF (List.set (Shop.tools s) j { a := Tri.a t, b := Tri.b t, c := co }))), SB.box [.int .i64 (Tri.a t), .int .i64 (Tri.b t), .int .i64 co]]) (.cons rfl (.cons rfl (.cons rfl (.cons rfl (.nil rfl))))) rfl fun fr => ?_
          rcases hx' with rfl | rfl | rfl
          · refine k_seq (k_region ?_)
            refine o_move rfl ?_
            refine o_eql rfl rfl rfl ?_
            refine o_move rfl ?_
            refine o_gS rfl rfl rfl rfl rfl ?_
            refine o_gS rfl rfl rfl rfl rfl ?_
            refine o_pickT rfl rfl rfl ?_
            refine o_move rfl ?_
            refine o_gS rfl rfl rfl rfl rfl ?_
            refine o_gS rfl rfl rfl rfl rfl ?_
            refine o_genA [(13, .int .i64 0), (16, .int .i64 x2), (17, .int .i64 30), (179, U.bool Bool.true), (181, U.tup [])] [] ([SB.box [U.lst Kd.ro 3 (trisU (Shop.tools s)), .int .i64 (Shop.flo s), .int .i64 (Shop.fhi s), U.lst Kd.ro 3 (trisU (Shop.keys s))], SB.box [.int .i64 (Tri.a q), .int .i64 (Tri.b q), .int .i64 (Tri.c q)], SB.box [.int .i64 a, .int .i64 b], SB.box [U.lst Kd.own 3 (trisU (Shop.tools s) ++ [U.agg [.int .i64 (Tri.a q), .int .i64 (Tri.b q), .int .i64 (Tri.c q)]]), .int .i64 (Shop.flo s), .int .i64 (Shop.fhi s), U.lst Kd.ro 3 (trisU (Shop.keys s))], SB.froz (List.map dg (triF (List.set (Shop.tools s) j { a := Tri.a t, b := Tri.b t, c := co }))), SB.box [.int .i64 (Tri.a t), .int .i64 (Tri.b t), .int .i64 co]]) (.cons rfl (.cons rfl (.cons rfl (.cons rfl (.cons rfl (.nil rfl)))))) rfl rfl fun fr => ?_
            refine o_gS rfl rfl rfl rfl rfl ?_
            refine o_dead rfl rfl rfl rfl ?_
            refine o_dead rfl rfl rfl rfl ?_
            refine o_dead rfl rfl rfl rfl ?_
            refine o_gS rfl rfl rfl rfl rfl ?_
            refine o_pickT rfl rfl rfl ?_
            refine o_move rfl ?_
            refine o_gD rfl rfl rfl rfl rfl ?_
            refine o_move rfl ?_
            refine o_gD rfl rfl rfl rfl rfl ?_
            refine o_eql rfl rfl rfl ?_
            refine o_genA [(17, .int .i64 30), (188, U.bool Bool.true), (190, U.bool (Decidable.decide ((30 : Int) = (0 : Int))))] [] ([SB.box [U.lst Kd.ro 3 (trisU (Shop.tools s)), .int .i64 (Shop.flo s), .int .i64 (Shop.fhi s), U.lst Kd.ro 3 (trisU (Shop.keys s))], SB.box [.int .i64 (Tri.a q), .int .i64 (Tri.b q), .int .i64 (Tri.c q)], SB.box [.int .i64 a, .int .i64 b], SB.box [U.lst Kd.own 3 (trisU (Shop.tools s) ++ [U.agg [.int .i64 (Tri.a q), .int .i64 (Tri.b q), .int .i64 (Tri.c q)]]), .int .i64 (Shop.flo s), .int .i64 (Shop.fhi s), U.lst Kd.ro 3 (trisU (Shop.keys s))], SB.froz (List.map dg (triF (List.set (Shop.tools s) j { a := Tri.a t, b := Tri.b t, c := co }))), SB.box [.int .i64 (Tri.a t), .int .i64 (Tri.b t), .int .i64 co]]) (.cons rfl (.cons rfl (.cons rfl (.nil rfl)))) rfl rfl fun fr => ?_
            refine o_gD rfl rfl rfl rfl rfl ?_
            refine o_genA [(17, .int .i64 30), (188, U.bool Bool.true), (190, U.bool (Decidable.decide ((30 : Int) = (0 : Int))))] [] ([SB.box [U.lst Kd.ro 3 (trisU (Shop.tools s)), .int .i64 (Shop.flo s), .int .i64 (Shop.fhi s), U.lst Kd.ro 3 (trisU (Shop.keys s))], SB.box [.int .i64 (Tri.a q), .int .i64 (Tri.b q), .int .i64 (Tri.c q)], SB.box [.int .i64 a, .int .i64 b], SB.box [U.lst Kd.own 3 (trisU (Shop.tools s) ++ [U.agg [.int .i64 (Tri.a q), .int .i64 (Tri.b q), .int .i64 (Tri.c q)]]), .int .i64 (Shop.flo s), .int .i64 (Shop.fhi s), U.lst Kd.ro 3 (trisU (Shop.keys s))], SB.froz (List.map dg (triF (List.set (Shop.tools s) j { a := Tri.a t, b := Tri.b t, c := co }))), SB.box [.int .i64 (Tri.a t), .int .i64 (Tri.b t), .int .i64 co]]) (.cons rfl (.cons rfl (.cons rfl (.nil rfl)))) rfl rfl fun fr => ?_
            refine o_move rfl ?_
            refine o_gD rfl rfl rfl rfl rfl ?_
            refine o_move rfl ?_
            refine o_gD rfl rfl rfl rfl rfl ?_
            refine o_eql rfl rfl rfl ?_
            refine o_gD rfl rfl rfl rfl rfl ?_
            refine o_pickF rfl rfl rfl ?_
            refine o_gD rfl rfl rfl rfl rfl ?_
            refine o_move rfl ?_
            refine o_gS rfl rfl rfl rfl rfl ?_
            refine o_gS rfl rfl rfl rfl rfl ?_
            refine o_gD rfl rfl rfl rfl rfl ?_
            refine o_pickT rfl rfl rfl ?_
            refine o_pickT rfl rfl rfl ?_
            refine o_genA [(199, U.bool Bool.true)] [] ([SB.box [U.lst Kd.ro 3 (trisU (Shop.tools s)), .int .i64 (Shop.flo s), .int .i64 (Shop.fhi s), U.lst Kd.ro 3 (trisU (Shop.keys s))], SB.box [.int .i64 (Tri.a q), .int .i64 (Tri.b q), .int .i64 (Tri.c q)], SB.box [.int .i64 a, .int .i64 b], SB.box [U.lst Kd.own 3 (trisU (Shop.tools s) ++ [U.agg [.int .i64 (Tri.a q), .int .i64 (Tri.b q), .int .i64 (Tri.c q)]]), .int .i64 (Shop.flo s), .int .i64 (Shop.fhi s), U.lst Kd.ro 3 (trisU (Shop.keys s))], SB.froz (List.map dg (triF (List.set (Shop.tools s) j { a := Tri.a t, b := Tri.b t, c := co }))), SB.box [.int .i64 (Tri.a t), .int .i64 (Tri.b t), .int .i64 co]]) (.cons rfl (.nil rfl)) rfl rfl fun fr => ?_
            refine o_move rfl ?_
            refine o_gD rfl rfl rfl rfl rfl ?_
            refine o_call rfl (r20) (.lrefl _) ?_
            refine o_pickT rfl rfl rfl ?_
            refine o_assign rfl ?_
            refine o_nil ?_
            refine k_ret ?_
            refine ⟨.inr rfl, _, .cons _ _ _ _ (.tmp 8) .nil, ?_⟩
            exact .refl _
          · refine k_seq (k_region ?_)
            refine o_move rfl ?_
            refine o_eql rfl rfl rfl ?_
            refine o_move rfl ?_
            refine o_gD rfl rfl rfl rfl rfl ?_
            refine o_move rfl ?_
            refine o_gD rfl rfl rfl rfl rfl ?_
            refine o_neq rfl rfl rfl ?_
            refine o_pickF rfl rfl rfl ?_
            refine o_move rfl ?_
            refine o_gS rfl rfl rfl rfl rfl ?_
            refine o_gS rfl rfl rfl rfl rfl ?_
            refine o_genA [(13, .int .i64 0), (16, .int .i64 x2), (17, .int .i64 4), (179, U.bool (Decidable.decide ((4 : Int) ≠ (0 : Int)))), (181, U.tup [])] [] ([SB.box [U.lst Kd.ro 3 (trisU (Shop.tools s)), .int .i64 (Shop.flo s), .int .i64 (Shop.fhi s), U.lst Kd.ro 3 (trisU (Shop.keys s))], SB.box [.int .i64 (Tri.a q), .int .i64 (Tri.b q), .int .i64 (Tri.c q)], SB.box [.int .i64 a, .int .i64 b], SB.box [U.lst Kd.own 3 (trisU (Shop.tools s) ++ [U.agg [.int .i64 (Tri.a q), .int .i64 (Tri.b q), .int .i64 (Tri.c q)]]), .int .i64 (Shop.flo s), .int .i64 (Shop.fhi s), U.lst Kd.ro 3 (trisU (Shop.keys s))], SB.froz (List.map dg (triF (List.set (Shop.tools s) j { a := Tri.a t, b := Tri.b t, c := co }))), SB.box [.int .i64 (Tri.a t), .int .i64 (Tri.b t), .int .i64 co]]) (.cons rfl (.cons rfl (.cons rfl (.cons rfl (.cons rfl (.nil rfl)))))) rfl rfl fun fr => ?_
            refine o_gS rfl rfl rfl rfl rfl ?_
            refine o_dead rfl rfl rfl rfl ?_
            refine o_dead rfl rfl rfl rfl ?_
            refine o_dead rfl rfl rfl rfl ?_
            refine o_gS rfl rfl rfl rfl rfl ?_
            refine o_pickT rfl rfl rfl ?_
            refine o_move rfl ?_
            refine o_gD rfl rfl rfl rfl rfl ?_
            refine o_move rfl ?_
            refine o_gD rfl rfl rfl rfl rfl ?_
            refine o_eql rfl rfl rfl ?_
            refine o_genA [(17, .int .i64 4), (188, U.bool Bool.true), (190, U.bool (Decidable.decide ((4 : Int) = (0 : Int))))] [] ([SB.box [U.lst Kd.ro 3 (trisU (Shop.tools s)), .int .i64 (Shop.flo s), .int .i64 (Shop.fhi s), U.lst Kd.ro 3 (trisU (Shop.keys s))], SB.box [.int .i64 (Tri.a q), .int .i64 (Tri.b q), .int .i64 (Tri.c q)], SB.box [.int .i64 a, .int .i64 b], SB.box [U.lst Kd.own 3 (trisU (Shop.tools s) ++ [U.agg [.int .i64 (Tri.a q), .int .i64 (Tri.b q), .int .i64 (Tri.c q)]]), .int .i64 (Shop.flo s), .int .i64 (Shop.fhi s), U.lst Kd.ro 3 (trisU (Shop.keys s))], SB.froz (List.map dg (triF (List.set (Shop.tools s) j { a := Tri.a t, b := Tri.b t, c := co }))), SB.box [.int .i64 (Tri.a t), .int .i64 (Tri.b t), .int .i64 co]]) (.cons rfl (.cons rfl (.cons rfl (.nil rfl)))) rfl rfl fun fr => ?_
            refine o_gD rfl rfl rfl rfl rfl ?_
            refine o_genA [(17, .int .i64 4), (188, U.bool Bool.true), (190, U.bool (Decidable.decide ((4 : Int) = (0 : Int))))] [] ([SB.box [U.lst Kd.ro 3 (trisU (Shop.tools s)), .int .i64 (Shop.flo s), .int .i64 (Shop.fhi s), U.lst Kd.ro 3 (trisU (Shop.keys s))], SB.box [.int .i64 (Tri.a q), .int .i64 (Tri.b q), .int .i64 (Tri.c q)], SB.box [.int .i64 a, .int .i64 b], SB.box [U.lst Kd.own 3 (trisU (Shop.tools s) ++ [U.agg [.int .i64 (Tri.a q), .int .i64 (Tri.b q), .int .i64 (Tri.c q)]]), .int .i64 (Shop.flo s), .int .i64 (Shop.fhi s), U.lst Kd.ro 3 (trisU (Shop.keys s))], SB.froz (List.map dg (triF (List.set (Shop.tools s) j { a := Tri.a t, b := Tri.b t, c := co }))), SB.box [.int .i64 (Tri.a t), .int .i64 (Tri.b t), .int .i64 co]]) (.cons rfl (.cons rfl (.cons rfl (.nil rfl)))) rfl rfl fun fr => ?_
            refine o_move rfl ?_
            refine o_gD rfl rfl rfl rfl rfl ?_
            refine o_move rfl ?_
            refine o_gD rfl rfl rfl rfl rfl ?_
            refine o_eql rfl rfl rfl ?_
            refine o_gD rfl rfl rfl rfl rfl ?_
            refine o_pickF rfl rfl rfl ?_
            refine o_gD rfl rfl rfl rfl rfl ?_
            refine o_move rfl ?_
            refine o_gD rfl rfl rfl rfl rfl ?_
            refine o_move rfl ?_
            refine o_gD rfl rfl rfl rfl rfl ?_
            refine o_eql rfl rfl rfl ?_
            refine o_gD rfl rfl rfl rfl rfl ?_
            refine o_pickF rfl rfl rfl ?_
            refine o_pickT rfl rfl rfl ?_
            refine o_genA [(199, U.bool (Decidable.decide ((4 : Int) = (4 : Int))))] [] ([SB.box [U.lst Kd.ro 3 (trisU (Shop.tools s)), .int .i64 (Shop.flo s), .int .i64 (Shop.fhi s), U.lst Kd.ro 3 (trisU (Shop.keys s))], SB.box [.int .i64 (Tri.a q), .int .i64 (Tri.b q), .int .i64 (Tri.c q)], SB.box [.int .i64 a, .int .i64 b], SB.box [U.lst Kd.own 3 (trisU (Shop.tools s) ++ [U.agg [.int .i64 (Tri.a q), .int .i64 (Tri.b q), .int .i64 (Tri.c q)]]), .int .i64 (Shop.flo s), .int .i64 (Shop.fhi s), U.lst Kd.ro 3 (trisU (Shop.keys s))], SB.froz (List.map dg (triF (List.set (Shop.tools s) j { a := Tri.a t, b := Tri.b t, c := co }))), SB.box [.int .i64 (Tri.a t), .int .i64 (Tri.b t), .int .i64 co]]) (.cons rfl (.nil rfl)) rfl rfl fun fr => ?_
            refine o_move rfl ?_
            refine o_gD rfl rfl rfl rfl rfl ?_
            refine o_call rfl (r20) (.lrefl _) ?_
            refine o_pickT rfl rfl rfl ?_
            refine o_assign rfl ?_
            refine o_nil ?_
            refine k_ret ?_
            refine ⟨.inr rfl, _, .cons _ _ _ _ (.tmp 8) .nil, ?_⟩
            exact .refl _
          · refine k_seq (k_region ?_)
            refine o_move rfl ?_
            refine o_eql rfl rfl rfl ?_
            refine o_move rfl ?_
            refine o_gD rfl rfl rfl rfl rfl ?_
            refine o_move rfl ?_
            refine o_gD rfl rfl rfl rfl rfl ?_
            refine o_neq rfl rfl rfl ?_
            refine o_pickF rfl rfl rfl ?_
            refine o_move rfl ?_
            refine o_gS rfl rfl rfl rfl rfl ?_
            refine o_gS rfl rfl rfl rfl rfl ?_
            refine o_genA [(13, .int .i64 0), (16, .int .i64 x2), (17, .int .i64 0), (179, U.bool (Decidable.decide ((4 : Int) ≠ (0 : Int)))), (181, U.tup [])] [] ([SB.box [U.lst Kd.ro 3 (trisU (Shop.tools s)), .int .i64 (Shop.flo s), .int .i64 (Shop.fhi s), U.lst Kd.ro 3 (trisU (Shop.keys s))], SB.box [.int .i64 (Tri.a q), .int .i64 (Tri.b q), .int .i64 (Tri.c q)], SB.box [.int .i64 a, .int .i64 b], SB.box [U.lst Kd.own 3 (trisU (Shop.tools s) ++ [U.agg [.int .i64 (Tri.a q), .int .i64 (Tri.b q), .int .i64 (Tri.c q)]]), .int .i64 (Shop.flo s), .int .i64 (Shop.fhi s), U.lst Kd.ro 3 (trisU (Shop.keys s))], SB.froz (List.map dg (triF (List.set (Shop.tools s) j { a := Tri.a t, b := Tri.b t, c := co }))), SB.box [.int .i64 (Tri.a t), .int .i64 (Tri.b t), .int .i64 co]]) (.cons rfl (.cons rfl (.cons rfl (.cons rfl (.cons rfl (.nil rfl)))))) rfl rfl fun fr => ?_
            refine o_gS rfl rfl rfl rfl rfl ?_
            refine o_dead rfl rfl rfl rfl ?_
            refine o_dead rfl rfl rfl rfl ?_
            refine o_dead rfl rfl rfl rfl ?_
            refine o_gS rfl rfl rfl rfl rfl ?_
            refine o_pickT rfl rfl rfl ?_
            refine o_move rfl ?_
            refine o_gD rfl rfl rfl rfl rfl ?_
            refine o_move rfl ?_
            refine o_gD rfl rfl rfl rfl rfl ?_
            refine o_eql rfl rfl rfl ?_
            refine o_genA [(17, .int .i64 0), (188, U.bool Bool.true), (190, U.bool (Decidable.decide ((0 : Int) = (0 : Int))))] [] ([SB.box [U.lst Kd.ro 3 (trisU (Shop.tools s)), .int .i64 (Shop.flo s), .int .i64 (Shop.fhi s), U.lst Kd.ro 3 (trisU (Shop.keys s))], SB.box [.int .i64 (Tri.a q), .int .i64 (Tri.b q), .int .i64 (Tri.c q)], SB.box [.int .i64 a, .int .i64 b], SB.box [U.lst Kd.own 3 (trisU (Shop.tools s) ++ [U.agg [.int .i64 (Tri.a q), .int .i64 (Tri.b q), .int .i64 (Tri.c q)]]), .int .i64 (Shop.flo s), .int .i64 (Shop.fhi s), U.lst Kd.ro 3 (trisU (Shop.keys s))], SB.froz (List.map dg (triF (List.set (Shop.tools s) j { a := Tri.a t, b := Tri.b t, c := co }))), SB.box [.int .i64 (Tri.a t), .int .i64 (Tri.b t), .int .i64 co]]) (.cons rfl (.cons rfl (.cons rfl (.nil rfl)))) rfl rfl fun fr => ?_
            refine o_gD rfl rfl rfl rfl rfl ?_
            refine o_genA [(17, .int .i64 0), (188, U.bool Bool.true), (190, U.bool (Decidable.decide ((0 : Int) = (0 : Int))))] [] ([SB.box [U.lst Kd.ro 3 (trisU (Shop.tools s)), .int .i64 (Shop.flo s), .int .i64 (Shop.fhi s), U.lst Kd.ro 3 (trisU (Shop.keys s))], SB.box [.int .i64 (Tri.a q), .int .i64 (Tri.b q), .int .i64 (Tri.c q)], SB.box [.int .i64 a, .int .i64 b], SB.box [U.lst Kd.own 3 (trisU (Shop.tools s) ++ [U.agg [.int .i64 (Tri.a q), .int .i64 (Tri.b q), .int .i64 (Tri.c q)]]), .int .i64 (Shop.flo s), .int .i64 (Shop.fhi s), U.lst Kd.ro 3 (trisU (Shop.keys s))], SB.froz (List.map dg (triF (List.set (Shop.tools s) j { a := Tri.a t, b := Tri.b t, c := co }))), SB.box [.int .i64 (Tri.a t), .int .i64 (Tri.b t), .int .i64 co]]) (.cons rfl (.cons rfl (.cons rfl (.nil rfl)))) rfl rfl fun fr => ?_
            refine o_move rfl ?_
            refine o_gS rfl rfl rfl rfl rfl ?_
            refine o_gS rfl rfl rfl rfl rfl ?_
            refine o_gD rfl rfl rfl rfl rfl ?_
            refine o_pickT rfl rfl rfl ?_
            refine o_gD rfl rfl rfl rfl rfl ?_
            refine o_move rfl ?_
            refine o_gS rfl rfl rfl rfl rfl ?_
            refine o_gS rfl rfl rfl rfl rfl ?_
            refine o_gD rfl rfl rfl rfl rfl ?_
            refine o_pickT rfl rfl rfl ?_
            refine o_pickT rfl rfl rfl ?_
            refine o_genA [(199, U.bool Bool.true)] [] ([SB.box [U.lst Kd.ro 3 (trisU (Shop.tools s)), .int .i64 (Shop.flo s), .int .i64 (Shop.fhi s), U.lst Kd.ro 3 (trisU (Shop.keys s))], SB.box [.int .i64 (Tri.a q), .int .i64 (Tri.b q), .int .i64 (Tri.c q)], SB.box [.int .i64 a, .int .i64 b], SB.box [U.lst Kd.own 3 (trisU (Shop.tools s) ++ [U.agg [.int .i64 (Tri.a q), .int .i64 (Tri.b q), .int .i64 (Tri.c q)]]), .int .i64 (Shop.flo s), .int .i64 (Shop.fhi s), U.lst Kd.ro 3 (trisU (Shop.keys s))], SB.froz (List.map dg (triF (List.set (Shop.tools s) j { a := Tri.a t, b := Tri.b t, c := co }))), SB.box [.int .i64 (Tri.a t), .int .i64 (Tri.b t), .int .i64 co]]) (.cons rfl (.nil rfl)) rfl rfl fun fr => ?_
            refine o_move rfl ?_
            refine o_gD rfl rfl rfl rfl rfl ?_
            refine o_call rfl (r20) (.lrefl _) ?_
            refine o_pickT rfl rfl rfl ?_
            refine o_assign rfl ?_
            refine o_nil ?_
            refine k_ret ?_
            refine ⟨.inr rfl, _, .cons _ _ _ _ (.tmp 8) .nil, ?_⟩
            exact .refl _
      · have hD : D.2 ≠ 31 := by omega
        simp only [unN, unE, if_neg hC] at qc
        simp only [unN, unE, if_neg hD] at qd
        refine k_seq (k_region ?_)
        refine o_box rfl rfl ?_
        refine o_box rfl rfl ?_
        refine o_box rfl rfl ?_
        refine o_assign rfl ?_
        refine o_nil ?_
        refine k_gen [(3, .int .i64 n), (4, U.box 0 0), (5, U.box 1 0), (6, U.box 2 0)] ([SB.box [U.lst Kd.ro 3 (trisU (Shop.tools s)), .int .i64 (Shop.flo s), .int .i64 (Shop.fhi s), U.lst Kd.ro 3 (trisU (Shop.keys s))], SB.box [.int .i64 (Tri.a q), .int .i64 (Tri.b q), .int .i64 (Tri.c q)], SB.box [.int .i64 a, .int .i64 b]]) (.cons rfl (.cons rfl (.cons rfl (.cons rfl (.nil rfl))))) rfl fun fr => ?_
        refine k_seq ?_
        refine k_seq (k_region ?_)
        refine o_loadN rfl rfl rfl sh27 rfl ?_
        refine o_call rfl (ret32 hi hk) (.lrefl _) ?_
        refine o_not rfl rfl ?_
        refine o_nil ?_
        refine k_cF rfl rfl ?_
        refine k_skip ?_
        refine k_seq (k_region ?_)
        refine o_loadN rfl rfl rfl sh28 rfl ?_
        refine o_call rfl (ret33 hi ..) (.lrefl _) ?_
        refine o_move rfl ?_
        refine o_extract rfl rfl rfl ?_
        refine o_extract rfl rfl rfl ?_
        refine o_assign rfl ?_
        refine o_assign rfl ?_
        refine o_nil ?_
        refine k_seq (k_region ?_)
        refine o_move rfl ?_
        refine o_call rfl (ret39 hi ..) (.lrefl _) ?_
        refine o_move rfl ?_
        refine o_call rfl (q36) (.lrefl _) ?_
        refine o_assign rfl ?_
        refine o_nil ?_
        refine k_gen [(3, .int .i64 n), (4, U.box 0 0), (5, U.box 1 0), (9, .int .i64 (a % (121 : Int) - (60 : Int))), (10, .int .i64 (b % (31 : Int))), (11, .int .i64 m)] ([SB.box [U.lst Kd.ro 3 (trisU (Shop.tools s)), .int .i64 (Shop.flo s), .int .i64 (Shop.fhi s), U.lst Kd.ro 3 (trisU (Shop.keys s))], SB.box [.int .i64 (Tri.a q), .int .i64 (Tri.b q), .int .i64 (Tri.c q)], SB.box [.int .i64 a, .int .i64 b]]) (.cons rfl (.cons rfl (.cons rfl (.cons rfl (.cons rfl (.cons rfl (.nil rfl))))))) rfl fun fr => ?_
        refine k_seq (k_region ?_)
        refine o_loadN rfl rfl rfl sh27 rfl ?_
        refine o_move rfl ?_
        refine o_move rfl ?_
        refine o_call rfl (qa) (.lrefl _) ?_
        refine o_move rfl ?_
        refine o_extract rfl rfl rfl ?_
        refine o_extract rfl rfl rfl ?_
        refine o_extract rfl rfl rfl ?_
        refine o_assign rfl ?_
        refine o_assign rfl ?_
        refine o_assign rfl ?_
        refine o_nil ?_
        refine k_seq (k_region ?_)
        refine o_loadN rfl rfl rfl sh27 rfl ?_
        refine o_move rfl ?_
        refine o_move rfl ?_
        refine o_call rfl (qb) (.lrefl _) ?_
        refine o_move rfl ?_
        refine o_extract rfl rfl rfl ?_
        refine o_extract rfl rfl rfl ?_
        refine o_extract rfl rfl rfl ?_
        refine o_assign rfl ?_
        refine o_assign rfl ?_
        refine o_assign rfl ?_
        refine o_nil ?_
        refine k_gen [(3, .int .i64 n), (4, U.box 0 0), (5, U.box 1 0), (9, .int .i64 (a % (121 : Int) - (60 : Int))), (10, .int .i64 (b % (31 : Int))), (11, .int .i64 m), (13, .int .i64 0), (14, .int .i64 4), (16, .int .i64 (nxn B)), (17, .int .i64 (nxe B))] ([SB.box [U.lst Kd.ro 3 (trisU (Shop.tools s)), .int .i64 (Shop.flo s), .int .i64 (Shop.fhi s), U.lst Kd.ro 3 (trisU (Shop.keys s))], SB.box [.int .i64 (Tri.a q), .int .i64 (Tri.b q), .int .i64 (Tri.c q)], SB.box [.int .i64 a, .int .i64 b]]) (.cons rfl (.cons rfl (.cons rfl (.cons rfl (.cons rfl (.cons rfl (.cons rfl (.cons rfl (.cons rfl (.cons rfl (.nil rfl))))))))))) rfl fun fr => ?_
        refine k_seq (k_region ?_)
        refine o_loadN rfl rfl rfl sh27 rfl ?_
        refine o_move rfl ?_
        refine o_move rfl ?_
        refine o_call rfl (qc) (.lrefl _) ?_
        refine o_move rfl ?_
        refine o_extract rfl rfl rfl ?_
        refine o_extract rfl rfl rfl ?_
        refine o_assign rfl ?_
        refine o_assign rfl ?_
        refine o_nil ?_
        refine k_seq (k_region ?_)
        refine o_loadN rfl rfl rfl sh27 rfl ?_
        refine o_move rfl ?_
        refine o_move rfl ?_
        refine o_call rfl (qd) (.lrefl _) ?_
        refine o_move rfl ?_
        refine o_extract rfl rfl rfl ?_
        refine o_extract rfl rfl rfl ?_
        refine o_assign rfl ?_
        refine o_assign rfl ?_
        refine o_nil ?_
        refine k_gen [(3, .int .i64 n), (4, U.box 0 0), (5, U.box 1 0), (9, .int .i64 (a % (121 : Int) - (60 : Int))), (10, .int .i64 (b % (31 : Int))), (13, .int .i64 0), (14, .int .i64 4), (16, .int .i64 (nxn B)), (17, .int .i64 (nxe B)), (18, .int .i64 (Prod.snd C)), (19, .int .i64 0), (20, .int .i64 (Prod.snd D)), (21, .int .i64 0)] ([SB.box [U.lst Kd.ro 3 (trisU (Shop.tools s)), .int .i64 (Shop.flo s), .int .i64 (Shop.fhi s), U.lst Kd.ro 3 (trisU (Shop.keys s))], SB.box [.int .i64 (Tri.a q), .int .i64 (Tri.b q), .int .i64 (Tri.c q)], SB.box [.int .i64 a, .int .i64 b]]) (.cons rfl (.cons rfl (.cons rfl (.cons rfl (.cons rfl (.cons rfl (.cons rfl (.cons rfl (.cons rfl (.cons rfl (.cons rfl (.cons rfl (.cons rfl (.nil rfl)))))))))))))) rfl fun fr => ?_
        refine k_seq ?_
        refine k_seq (k_region ?_)
        refine o_move rfl ?_
        refine o_eql rfl rfl rfl ?_
        refine o_move rfl ?_
        refine o_gS rfl rfl rfl rfl rfl ?_
        refine o_gS rfl rfl rfl rfl rfl ?_
        refine o_gS rfl rfl rfl rfl rfl ?_
        refine o_dead rfl rfl rfl rfl ?_
        refine o_dead rfl rfl rfl rfl ?_
        refine o_dead rfl rfl rfl rfl ?_
        refine o_genA [(3, .int .i64 n), (4, U.box 0 0), (5, U.box 1 0), (9, .int .i64 (a % (121 : Int) - (60 : Int))), (10, .int .i64 (b % (31 : Int))), (13, .int .i64 0), (14, .int .i64 4), (18, .int .i64 (Prod.snd C)), (19, .int .i64 0), (20, .int .i64 (Prod.snd D)), (21, .int .i64 0), (70, U.bool (Decidable.decide ((4 : Int) = (0 : Int)))), (73, U.tup []), (76, U.tup [])] [] ([SB.box [U.lst Kd.ro 3 (trisU (Shop.tools s)), .int .i64 (Shop.flo s), .int .i64 (Shop.fhi s), U.lst Kd.ro 3 (trisU (Shop.keys s))], SB.box [.int .i64 (Tri.a q), .int .i64 (Tri.b q), .int .i64 (Tri.c q)], SB.box [.int .i64 a, .int .i64 b]]) (.cons rfl (.cons rfl (.cons rfl (.cons rfl (.cons rfl (.cons rfl (.cons rfl (.cons rfl (.cons rfl (.cons rfl (.cons rfl (.cons rfl (.cons rfl (.cons rfl (.nil rfl))))))))))))))) rfl rfl fun fr => ?_
        refine o_gS rfl rfl rfl rfl rfl ?_
        refine o_pickF rfl rfl rfl ?_
        refine o_move rfl ?_
        refine o_gD rfl rfl rfl rfl rfl ?_
        refine o_move rfl ?_
        refine o_gD rfl rfl rfl rfl rfl ?_
        refine o_eql rfl rfl rfl ?_
        refine o_gD rfl rfl rfl rfl rfl ?_
        refine o_move rfl ?_
        refine o_gD rfl rfl rfl rfl rfl ?_
        refine o_move rfl ?_
        refine o_gD rfl rfl rfl rfl rfl ?_
        refine o_neq rfl rfl rfl ?_
        refine o_gD rfl rfl rfl rfl rfl ?_
        refine o_move rfl ?_
        refine o_genA [(3, .int .i64 n), (4, U.box 0 0), (5, U.box 1 0), (9, .int .i64 (a % (121 : Int) - (60 : Int))), (10, .int .i64 (b % (31 : Int))), (13, .int .i64 0), (14, .int .i64 4), (18, .int .i64 (Prod.snd C)), (19, .int .i64 0), (20, .int .i64 (Prod.snd D)), (79, U.bool Bool.false), (82, U.bool (Decidable.decide ((0 : Int) = (0 : Int)))), (85, U.bool (Decidable.decide ((0 : Int) ≠ (0 : Int))))] [] ([SB.box [U.lst Kd.ro 3 (trisU (Shop.tools s)), .int .i64 (Shop.flo s), .int .i64 (Shop.fhi s), U.lst Kd.ro 3 (trisU (Shop.keys s))], SB.box [.int .i64 (Tri.a q), .int .i64 (Tri.b q), .int .i64 (Tri.c q)], SB.box [.int .i64 a, .int .i64 b]]) (.cons rfl (.cons rfl (.cons rfl (.cons rfl (.cons rfl (.cons rfl (.cons rfl (.cons rfl (.cons rfl (.cons rfl (.cons rfl (.cons rfl (.cons rfl (.nil rfl)))))))))))))) rfl rfl fun fr => ?_
        refine o_gD rfl rfl rfl rfl rfl ?_
        refine o_genA [(3, .int .i64 n), (4, U.box 0 0), (5, U.box 1 0), (9, .int .i64 (a % (121 : Int) - (60 : Int))), (10, .int .i64 (b % (31 : Int))), (13, .int .i64 0), (14, .int .i64 4), (18, .int .i64 (Prod.snd C)), (19, .int .i64 0), (20, .int .i64 (Prod.snd D)), (79, U.bool Bool.false), (82, U.bool (Decidable.decide ((0 : Int) = (0 : Int)))), (85, U.bool (Decidable.decide ((0 : Int) ≠ (0 : Int))))] [] ([SB.box [U.lst Kd.ro 3 (trisU (Shop.tools s)), .int .i64 (Shop.flo s), .int .i64 (Shop.fhi s), U.lst Kd.ro 3 (trisU (Shop.keys s))], SB.box [.int .i64 (Tri.a q), .int .i64 (Tri.b q), .int .i64 (Tri.c q)], SB.box [.int .i64 a, .int .i64 b]]) (.cons rfl (.cons rfl (.cons rfl (.cons rfl (.cons rfl (.cons rfl (.cons rfl (.cons rfl (.cons rfl (.cons rfl (.cons rfl (.cons rfl (.cons rfl (.nil rfl)))))))))))))) rfl rfl fun fr => ?_
        refine o_move rfl ?_
        refine o_gD rfl rfl rfl rfl rfl ?_
        refine o_move rfl ?_
        refine o_gD rfl rfl rfl rfl rfl ?_
        refine o_gtr rfl rfl rfl ?_
        refine o_gD rfl rfl rfl rfl rfl ?_
        refine o_pickF rfl rfl rfl ?_
        refine o_gD rfl rfl rfl rfl rfl ?_
        refine o_pickT rfl rfl rfl ?_
        refine o_pickF rfl rfl rfl ?_
        refine o_move rfl ?_
        refine o_gD rfl rfl rfl rfl (decide_eq_false (by omega)) ?_
        refine o_move rfl ?_
        refine o_gD rfl rfl rfl rfl (decide_eq_false (by omega)) ?_
        refine o_eql rfl rfl rfl ?_
        refine o_genA [(3, .int .i64 n), (4, U.box 0 0), (5, U.box 1 0), (9, .int .i64 (a % (121 : Int) - (60 : Int))), (10, .int .i64 (b % (31 : Int))), (13, .int .i64 0), (14, .int .i64 4), (18, .int .i64 (Prod.snd C)), (19, .int .i64 0), (92, U.bool (Decidable.decide (Prod.snd C < Prod.snd D))), (94, U.bool (Decidable.decide ((4 : Int) = (0 : Int))))] [] ([SB.box [U.lst Kd.ro 3 (trisU (Shop.tools s)), .int .i64 (Shop.flo s), .int .i64 (Shop.fhi s), U.lst Kd.ro 3 (trisU (Shop.keys s))], SB.box [.int .i64 (Tri.a q), .int .i64 (Tri.b q), .int .i64 (Tri.c q)], SB.box [.int .i64 a, .int .i64 b]]) (.cons rfl (.cons rfl (.cons rfl (.cons rfl (.cons rfl (.cons rfl (.cons rfl (.cons rfl (.cons rfl (.cons rfl (.cons rfl (.nil rfl)))))))))))) rfl rfl fun fr => ?_
        refine o_gD rfl rfl rfl rfl (decide_eq_false (by omega)) ?_
        refine o_genA [(3, .int .i64 n), (4, U.box 0 0), (5, U.box 1 0), (9, .int .i64 (a % (121 : Int) - (60 : Int))), (10, .int .i64 (b % (31 : Int))), (13, .int .i64 0), (14, .int .i64 4), (18, .int .i64 (Prod.snd C)), (19, .int .i64 0), (92, U.bool (Decidable.decide (Prod.snd C < Prod.snd D))), (94, U.bool (Decidable.decide ((4 : Int) = (0 : Int))))] [] ([SB.box [U.lst Kd.ro 3 (trisU (Shop.tools s)), .int .i64 (Shop.flo s), .int .i64 (Shop.fhi s), U.lst Kd.ro 3 (trisU (Shop.keys s))], SB.box [.int .i64 (Tri.a q), .int .i64 (Tri.b q), .int .i64 (Tri.c q)], SB.box [.int .i64 a, .int .i64 b]]) (.cons rfl (.cons rfl (.cons rfl (.cons rfl (.cons rfl (.cons rfl (.cons rfl (.cons rfl (.cons rfl (.cons rfl (.cons rfl (.nil rfl)))))))))))) rfl rfl fun fr => ?_
        refine o_move rfl ?_
        refine o_gS rfl rfl rfl rfl rfl ?_
        refine o_gS rfl rfl rfl rfl rfl ?_
        refine o_gS rfl rfl rfl rfl rfl ?_
        refine o_dead rfl rfl rfl rfl ?_
        refine o_dead rfl rfl rfl rfl ?_
        refine o_dead rfl rfl rfl rfl ?_
        refine o_gS rfl rfl rfl rfl rfl ?_
        refine o_gD rfl rfl rfl rfl (decide_eq_false (by omega)) ?_
        refine o_pickF rfl rfl rfl ?_
        refine o_genA [(3, .int .i64 n), (4, U.box 0 0), (5, U.box 1 0), (9, .int .i64 (a % (121 : Int) - (60 : Int))), (10, .int .i64 (b % (31 : Int))), (13, .int .i64 0), (14, .int .i64 4), (92, U.bool (Decidable.decide (Prod.snd C < Prod.snd D))), (103, U.bool Bool.false)] [] ([SB.box [U.lst Kd.ro 3 (trisU (Shop.tools s)), .int .i64 (Shop.flo s), .int .i64 (Shop.fhi s), U.lst Kd.ro 3 (trisU (Shop.keys s))], SB.box [.int .i64 (Tri.a q), .int .i64 (Tri.b q), .int .i64 (Tri.c q)], SB.box [.int .i64 a, .int .i64 b]]) (.cons rfl (.cons rfl (.cons rfl (.cons rfl (.cons rfl (.cons rfl (.cons rfl (.cons rfl (.cons rfl (.nil rfl)))))))))) rfl rfl fun fr => ?_
        refine o_pickF rfl rfl (decide_eq_false (by omega)) ?_
        refine o_nil ?_
        refine k_gen [(3, .int .i64 n), (4, U.box 0 0), (5, U.box 1 0), (9, .int .i64 (a % (121 : Int) - (60 : Int))), (10, .int .i64 (b % (31 : Int))), (13, .int .i64 0), (14, .int .i64 4), (104, U.bool Bool.false)] ([SB.box [U.lst Kd.ro 3 (trisU (Shop.tools s)), .int .i64 (Shop.flo s), .int .i64 (Shop.fhi s), U.lst Kd.ro 3 (trisU (Shop.keys s))], SB.box [.int .i64 (Tri.a q), .int .i64 (Tri.b q), .int .i64 (Tri.c q)], SB.box [.int .i64 a, .int .i64 b]]) (.cons rfl (.cons rfl (.cons rfl (.cons rfl (.cons rfl (.cons rfl (.cons rfl (.cons rfl (.nil rfl))))))))) rfl fun fr => ?_
        refine k_cF rfl rfl ?_
        refine k_skip ?_
        refine k_seq (k_region ?_)
        refine o_loadN rfl rfl rfl sh27 rfl ?_
        refine o_alloc rfl ze27 ?_
        refine o_storeN rfl rfl sh27 rfl rfl rfl rfl rfl ?_
        refine o_nil ?_
        refine k_gen [(3, .int .i64 n), (4, U.box 0 0), (5, U.box 1 0), (9, .int .i64 (a % (121 : Int) - (60 : Int))), (10, .int .i64 (b % (31 : Int))), (13, .int .i64 0), (14, .int .i64 4), (22, U.box 3 0)] ([SB.box [U.lst Kd.ro 3 (trisU (Shop.tools s)), .int .i64 (Shop.flo s), .int .i64 (Shop.fhi s), U.lst Kd.ro 3 (trisU (Shop.keys s))], SB.box [.int .i64 (Tri.a q), .int .i64 (Tri.b q), .int .i64 (Tri.c q)], SB.box [.int .i64 a, .int .i64 b], SB.box [U.lst Kd.ro 3 (trisU (Shop.tools s)), .int .i64 (Shop.flo s), .int .i64 (Shop.fhi s), U.lst Kd.ro 3 (trisU (Shop.keys s))]]) (.cons rfl (.cons rfl (.cons rfl (.cons rfl (.cons rfl (.cons rfl (.cons rfl (.cons rfl (.nil rfl))))))))) rfl fun fr => ?_
        refine k_seq (k_region ?_)
        refine o_lit (es := []) rfl ty22 ze52 cl52 rfl rfl rfl rfl rfl rfl rfl rfl ?_
        refine o_faddr rfl rfl fld27_0 ?_
        refine o_load1 rfl rfl rfl sh22 rfl ?_
        refine o_appendB rfl ap22_22 rfl rfl (by simp) (by simp) (trisU_one _) (by rw [triF_flat, triF_dg]) (List.length_map _) (by omega) (by omega) ?_
        refine o_faddr rfl rfl fld27_0 ?_
        refine o_store1 rfl rfl sh22 rfl rfl ?_
        refine o_nil ?_
        refine k_gen [(3, .int .i64 n), (4, U.box 0 0), (5, U.box 1 0), (9, .int .i64 (a % (121 : Int) - (60 : Int))), (10, .int .i64 (b % (31 : Int))), (13, .int .i64 0), (14, .int .i64 4), (22, U.box 3 0)] ([SB.box [U.lst Kd.ro 3 (trisU (Shop.tools s)), .int .i64 (Shop.flo s), .int .i64 (Shop.fhi s), U.lst Kd.ro 3 (trisU (Shop.keys s))], SB.box [.int .i64 (Tri.a q), .int .i64 (Tri.b q), .int .i64 (Tri.c q)], SB.box [.int .i64 a, .int .i64 b], SB.box [U.sl 4 0 (List.length (Shop.tools s)) 3, .int .i64 (Shop.flo s), .int .i64 (Shop.fhi s), U.lst Kd.ro 3 (trisU (Shop.keys s))], SB.box (triF (Shop.tools s))]) (.cons rfl (.cons rfl (.cons rfl (.cons rfl (.cons rfl (.cons rfl (.cons rfl (.cons rfl (.nil rfl))))))))) rfl fun fr => ?_
        refine k_seq (k_region ?_)
        refine o_move rfl ?_
        refine o_faddr rfl rfl fld27_0 ?_
        refine o_load1 rfl rfl rfl sh22 rfl ?_
        refine o_len rfl ty22 rfl (List.length_map _) ?_
        refine o_call rfl (q40) (.lrefl _) ?_
        refine o_assign rfl ?_
        refine o_nil ?_
        refine k_seq (k_region ?_)
        refine o_faddr rfl rfl fld27_0 ?_
        refine o_load1 rfl rfl rfl sh22 rfl ?_
        refine o_move rfl ?_
        refine o_idx (u := (t).u) rfl ty22 rfl rfl (Int.natCast_nonneg _) (by simp [hq]) cl52 ?_
        refine o_loadRN rfl rfl sh52 rfl ?_
        refine o_alloc rfl ze52 ?_
        refine o_storeN rfl rfl sh52 rfl rfl rfl rfl rfl ?_
        refine o_nil ?_
        refine k_gen [(3, .int .i64 n), (4, U.box 0 0), (5, U.box 1 0), (9, .int .i64 (a % (121 : Int) - (60 : Int))), (10, .int .i64 (b % (31 : Int))), (13, .int .i64 0), (14, .int .i64 4), (22, U.box 3 0), (23, .int .i64 ↑j), (24, U.box 5 0)] ([SB.box [U.lst Kd.ro 3 (trisU (Shop.tools s)), .int .i64 (Shop.flo s), .int .i64 (Shop.fhi s), U.lst Kd.ro 3 (trisU (Shop.keys s))], SB.box [.int .i64 (Tri.a q), .int .i64 (Tri.b q), .int .i64 (Tri.c q)], SB.box [.int .i64 a, .int .i64 b], SB.box [U.sl 4 0 (List.length (Shop.tools s)) 3, .int .i64 (Shop.flo s), .int .i64 (Shop.fhi s), U.lst Kd.ro 3 (trisU (Shop.keys s))], SB.box (triF (Shop.tools s)), SB.box [.int .i64 (Tri.a t), .int .i64 (Tri.b t), .int .i64 (Tri.c t)]]) (.cons rfl (.cons rfl (.cons rfl (.cons rfl (.cons rfl (.cons rfl (.cons rfl (.cons rfl (.cons rfl (.cons rfl (.nil rfl))))))))))) rfl fun fr => ?_
        refine k_seq (k_region ?_)
        refine o_faddr rfl rfl fld52_1 ?_
        refine o_load1 rfl rfl rfl sh3 rfl ?_
        refine o_call rfl (ret39 hi ..) (.lrefl _) ?_
        refine o_move rfl ?_
        refine o_call rfl (q36c) (.lrefl _) ?_
        refine o_faddr rfl rfl fld52_1 ?_
        refine o_store1 rfl rfl sh3 rfl rfl ?_
        refine o_nil ?_
        refine k_gen [(4, U.box 0 0), (5, U.box 1 0), (9, .int .i64 (a % (121 : Int) - (60 : Int))), (10, .int .i64 (b % (31 : Int))), (13, .int .i64 0), (14, .int .i64 4), (22, U.box 3 0), (23, .int .i64 ↑j), (24, U.box 5 0)] ([SB.box [U.lst Kd.ro 3 (trisU (Shop.tools s)), .int .i64 (Shop.flo s), .int .i64 (Shop.fhi s), U.lst Kd.ro 3 (trisU (Shop.keys s))], SB.box [.int .i64 (Tri.a q), .int .i64 (Tri.b q), .int .i64 (Tri.c q)], SB.box [.int .i64 a, .int .i64 b], SB.box [U.sl 4 0 (List.length (Shop.tools s)) 3, .int .i64 (Shop.flo s), .int .i64 (Shop.fhi s), U.lst Kd.ro 3 (trisU (Shop.keys s))], SB.box (triF (Shop.tools s)), SB.box [.int .i64 (Tri.a t), .int .i64 (Tri.b t), .int .i64 co]]) (.cons rfl (.cons rfl (.cons rfl (.cons rfl (.cons rfl (.cons rfl (.cons rfl (.cons rfl (.cons rfl (.nil rfl)))))))))) rfl fun fr => ?_
        refine k_seq (k_region ?_)
        refine o_faddr rfl rfl fld27_0 ?_
        refine o_load1 rfl rfl rfl sh22 rfl ?_
        refine o_move rfl ?_
        refine o_loadN rfl rfl rfl sh52 rfl ?_
        refine o_idxS rfl ty22 rfl rfl (Int.natCast_nonneg _) (by omega) cl52 ?_
        refine o_storeNW rfl rfl sh52 rfl rfl rfl (by rw [hfl]; omega) rfl hset ?_
        refine o_nil ?_
        refine k_gen [(4, U.box 0 0), (5, U.box 1 0), (9, .int .i64 (a % (121 : Int) - (60 : Int))), (10, .int .i64 (b % (31 : Int))), (13, .int .i64 0), (14, .int .i64 4), (22, U.box 3 0)] ([SB.box [U.lst Kd.ro 3 (trisU (Shop.tools s)), .int .i64 (Shop.flo s), .int .i64 (Shop.fhi s), U.lst Kd.ro 3 (trisU (Shop.keys s))], SB.box [.int .i64 (Tri.a q), .int .i64 (Tri.b q), .int .i64 (Tri.c q)], SB.box [.int .i64 a, .int .i64 b], SB.box [U.sl 4 0 (List.length (Shop.tools s)) 3, .int .i64 (Shop.flo s), .int .i64 (Shop.fhi s), U.lst Kd.ro 3 (trisU (Shop.keys s))], SB.box (triF (List.set (Shop.tools s) j { a := Tri.a t, b := Tri.b t, c := co })), SB.box [.int .i64 (Tri.a t), .int .i64 (Tri.b t), .int .i64 co]]) (.cons rfl (.cons rfl (.cons rfl (.cons rfl (.cons rfl (.cons rfl (.cons rfl (.nil rfl)))))))) rfl fun fr => ?_
        refine k_seq (k_region ?_)
        refine o_frz (a := 4) rfl ?_
        refine o_loadN rfl rfl rfl sh27 rfl ?_
        refine o_see 133 rfl (fun _ => rfl) (.agg _ _ (.lcons _ _ _ _ (.sl _ _ _ _ _ _ rfl hfs hez hel hle) (.lrefl _))) ?_
        refine o_move rfl ?_
        refine o_move rfl ?_
        refine o_call rfl (qe) (.lrefl _) ?_
        refine o_move rfl ?_
        refine o_extract rfl rfl rfl ?_
        refine o_extract rfl rfl rfl ?_
        refine o_extract rfl rfl rfl ?_
        refine o_assign rfl ?_
        refine o_assign rfl ?_
        refine o_nil ?_
        refine k_gen [(4, U.box 0 0), (5, U.box 1 0), (9, .int .i64 (a % (121 : Int) - (60 : Int))), (10, .int .i64 (b % (31 : Int))), (13, .int .i64 0), (14, .int .i64 4), (16, .int .i64 (nxn G)), (17, .int .i64 (nxe G)), (22, U.box 3 0)] ([SB.box [U.lst Kd.ro 3 (trisU (Shop.tools s)), .int .i64 (Shop.flo s), .int .i64 (Shop.fhi s), U.lst Kd.ro 3 (trisU (Shop.keys s))], SB.box [.int .i64 (Tri.a q), .int .i64 (Tri.b q), .int .i64 (Tri.c q)], SB.box [.int .i64 a, .int .i64 b], SB.box [U.sl 4 0 (List.length (Shop.tools s)) 3, .int .i64 (Shop.flo s), .int .i64 (Shop.fhi s), U.lst Kd.ro 3 (trisU (Shop.keys s))], SB.froz (List.map dg (triF (List.set (Shop.tools s) j { a := Tri.a t, b := Tri.b t, c := co }))), SB.box [.int .i64 (Tri.a t), .int .i64 (Tri.b t), .int .i64 co]]) (.cons rfl (.cons rfl (.cons rfl (.cons rfl (.cons rfl (.cons rfl (.cons rfl (.cons rfl (.cons rfl (.nil rfl)))))))))) rfl fun fr => ?_
        refine k_seq ?_
        refine k_seq (k_region ?_)
        refine o_move rfl ?_
        refine o_eql rfl rfl rfl ?_
        refine o_move rfl ?_
        refine o_gS rfl rfl rfl rfl rfl ?_
        refine o_gS rfl rfl rfl rfl rfl ?_
        refine o_gS rfl rfl rfl rfl rfl ?_
        refine o_dead rfl rfl rfl rfl ?_
        refine o_dead rfl rfl rfl rfl ?_
        refine o_dead rfl rfl rfl rfl ?_
        refine o_gS rfl rfl rfl rfl rfl ?_
        refine o_pickF rfl rfl rfl ?_
        refine o_nil ?_
        refine k_gen [(4, U.box 0 0), (5, U.box 1 0), (9, .int .i64 (a % (121 : Int) - (60 : Int))), (10, .int .i64 (b % (31 : Int))), (13, .int .i64 0), (14, .int .i64 4), (22, U.box 3 0), (150, U.bool Bool.false)] ([SB.box [U.lst Kd.ro 3 (trisU (Shop.tools s)), .int .i64 (Shop.flo s), .int .i64 (Shop.fhi s), U.lst Kd.ro 3 (trisU (Shop.keys s))], SB.box [.int .i64 (Tri.a q), .int .i64 (Tri.b q), .int .i64 (Tri.c q)], SB.box [.int .i64 a, .int .i64 b], SB.box [U.sl 4 0 (List.length (Shop.tools s)) 3, .int .i64 (Shop.flo s), .int .i64 (Shop.fhi s), U.lst Kd.ro 3 (trisU (Shop.keys s))], SB.froz (List.map dg (triF (List.set (Shop.tools s) j { a := Tri.a t, b := Tri.b t, c := co }))), SB.box [.int .i64 (Tri.a t), .int .i64 (Tri.b t), .int .i64 co]]) (.cons rfl (.cons rfl (.cons rfl (.cons rfl (.cons rfl (.cons rfl (.cons rfl (.cons rfl (.nil rfl))))))))) rfl fun fr => ?_
        refine k_cF rfl rfl ?_
        refine k_skip ?_
        refine k_seq ?_
        refine k_seq (k_region ?_)
        refine o_faddr rfl rfl fld27_0 ?_
        refine o_load1 rfl rfl rfl sh22 rfl ?_
        refine o_len rfl ty22 rfl (List.length_map _) ?_
        refine o_eql rfl rfl rfl ?_
        refine o_nil ?_
        refine k_gen [(4, U.box 0 0), (5, U.box 1 0), (9, .int .i64 (a % (121 : Int) - (60 : Int))), (10, .int .i64 (b % (31 : Int))), (13, .int .i64 0), (14, .int .i64 4), (22, U.box 3 0), (154, U.bool (Decidable.decide (↑(List.length (Shop.tools s)) = (4 : Int))))] ([SB.box [U.lst Kd.ro 3 (trisU (Shop.tools s)), .int .i64 (Shop.flo s), .int .i64 (Shop.fhi s), U.lst Kd.ro 3 (trisU (Shop.keys s))], SB.box [.int .i64 (Tri.a q), .int .i64 (Tri.b q), .int .i64 (Tri.c q)], SB.box [.int .i64 a, .int .i64 b], SB.box [U.sl 4 0 (List.length (Shop.tools s)) 3, .int .i64 (Shop.flo s), .int .i64 (Shop.fhi s), U.lst Kd.ro 3 (trisU (Shop.keys s))], SB.froz (List.map dg (triF (List.set (Shop.tools s) j { a := Tri.a t, b := Tri.b t, c := co }))), SB.box [.int .i64 (Tri.a t), .int .i64 (Tri.b t), .int .i64 co]]) (.cons rfl (.cons rfl (.cons rfl (.cons rfl (.cons rfl (.cons rfl (.cons rfl (.cons rfl (.nil rfl))))))))) rfl fun fr => ?_
        refine k_cond rfl (fun h154 => ?_) (fun h154 => ?_)
        · refine k_seq (k_region ?_)
          refine o_call rfl (r20) (.lrefl _) ?_
          refine o_assign rfl ?_
          refine o_nil ?_
          refine k_ret ?_
          refine ⟨.inr rfl, _, .cons _ _ _ _ (.tmp 8) .nil, ?_⟩
          exact .refl _
        · refine k_skip ?_
          refine k_seq (k_region ?_)
          refine o_loadN rfl rfl rfl sh27 rfl ?_
          refine o_storeN rfl rfl sh27 rfl rfl rfl rfl rfl ?_
          refine o_nil ?_
          refine k_gen [(4, U.box 0 0), (5, U.box 1 0), (9, .int .i64 (a % (121 : Int) - (60 : Int))), (10, .int .i64 (b % (31 : Int))), (13, .int .i64 0), (14, .int .i64 4), (22, U.box 3 0)] ([SB.box [U.lst Kd.ro 3 (trisU (Shop.tools s)), .int .i64 (Shop.flo s), .int .i64 (Shop.fhi s), U.lst Kd.ro 3 (trisU (Shop.keys s))], SB.box [.int .i64 (Tri.a q), .int .i64 (Tri.b q), .int .i64 (Tri.c q)], SB.box [.int .i64 a, .int .i64 b], SB.box [U.lst Kd.ro 3 (trisU (Shop.tools s)), .int .i64 (Shop.flo s), .int .i64 (Shop.fhi s), U.lst Kd.ro 3 (trisU (Shop.keys s))], SB.froz (List.map dg (triF (List.set (Shop.tools s) j { a := Tri.a t, b := Tri.b t, c := co }))), SB.box [.int .i64 (Tri.a t), .int .i64 (Tri.b t), .int .i64 co]]) (.cons rfl (.cons rfl (.cons rfl (.cons rfl (.cons rfl (.cons rfl (.cons rfl (.nil rfl)))))))) rfl fun fr => ?_
          refine k_seq ?_
          refine k_draw [.lay, .plain, .read true, .quiet, .read true, .lay, .plain, .plain, .plain] (by kernel_rfl) (by kernel_rfl) (by kernel_rfl) ?_
          refine d_lay (es := []) rfl ty22 ze52 cl52 rfl rfl rfl rfl rfl rfl rfl rfl ?_
          refine d_plain (o_faddr rfl rfl fld27_0 (o_nil rfl)) ?_
          refine d_load rfl (o_load1 rfl rfl rfl sh22 rfl (o_nil rfl)) ?_
          refine d_appendQ rfl ap22_22 rfl rfl (by simp) (by simp) (trisU_one _) (by simp; omega) (by simp; omega) ?_
          refine d_load rfl (o_loadN rfl rfl rfl sh52 rfl (o_nil rfl)) ?_
          refine d_lay (es := [U.agg [.int .i64 (Tri.a q), .int .i64 (Tri.b q), .int .i64 (Tri.c q)]]) rfl ty22 ze52 cl52 rfl rfl rfl rfl rfl rfl rfl rfl ?_
          refine d_plain (o_appendO rfl ap22_22 rfl rfl (by simp) (by simp) (by simp [flatU, cellsU, oneU]) (by simp; omega) (o_nil rfl)) ?_
          refine d_plain (o_faddr rfl rfl fld27_0 (o_nil rfl)) ?_
          refine d_plain (o_store1 rfl rfl sh22 rfl rfl (o_nil rfl)) ?_
          refine d_nil ?_
          refine k_gen [(9, .int .i64 (a % (121 : Int) - (60 : Int))), (10, .int .i64 (b % (31 : Int))), (13, .int .i64 0), (14, .int .i64 4), (22, U.box 3 0)] ([SB.box [U.lst Kd.ro 3 (trisU (Shop.tools s)), .int .i64 (Shop.flo s), .int .i64 (Shop.fhi s), U.lst Kd.ro 3 (trisU (Shop.keys s))], SB.box [.int .i64 (Tri.a q), .int .i64 (Tri.b q), .int .i64 (Tri.c q)], SB.box [.int .i64 a, .int .i64 b], SB.box [U.lst Kd.own 3 (trisU (Shop.tools s) ++ [U.agg [.int .i64 (Tri.a q), .int .i64 (Tri.b q), .int .i64 (Tri.c q)]]), .int .i64 (Shop.flo s), .int .i64 (Shop.fhi s), U.lst Kd.ro 3 (trisU (Shop.keys s))], SB.froz (List.map dg (triF (List.set (Shop.tools s) j { a := Tri.a t, b := Tri.b t, c := co }))), SB.box [.int .i64 (Tri.a t), .int .i64 (Tri.b t), .int .i64 co]]) (.cons rfl (.cons rfl (.cons rfl (.cons rfl (.cons rfl (.nil rfl)))))) rfl fun fr => ?_
          refine k_seq (k_region ?_)
          refine o_loadN rfl rfl rfl sh27 rfl ?_
          refine o_move rfl ?_
          refine o_move rfl ?_
          refine o_call rfl (qf) (.lcons _ _ _ _ (.agg _ _ (.lcons _ _ _ _ hap (.lrefl _))) (.lrefl _)) ?_
          refine o_move rfl ?_
          refine o_extract rfl rfl rfl ?_
          refine o_extract rfl rfl rfl ?_
          refine o_extract rfl rfl rfl ?_
          refine o_assign rfl ?_
          refine o_assign rfl ?_
          refine o_nil ?_
          refine k_gen [(13, .int .i64 0), (14, .int .i64 4), (16, .int .i64 x2), (17, .int .i64 x3)] ([SB.box [U.lst Kd.ro 3 (trisU (Shop.tools s)), .int .i64 (Shop.flo s), .int .i64 (Shop.fhi s), U.lst Kd.ro 3 (trisU (Shop.keys s))], SB.box [.int .i64 (Tri.a q), .int .i64 (Tri.b q), .int .i64 (Tri.c q)], SB.box [.int .i64 a, .int .i64 b], SB.box [U.lst Kd.own 3 (trisU (Shop.tools s) ++ [U.agg [.int .i64 (Tri.a q), .int .i64 (Tri.b q), .int .i64 (Tri.c q)]]), .int .i64 (Shop.flo s), .int .i64 (Shop.fhi s), U.lst Kd.ro 3 (trisU (Shop.keys s))], SB.froz (List.map dg (triF (List.set (Shop.tools s) j { a := Tri.a t, b := Tri.b t, c := co }))), SB.box [.int .i64 (Tri.a t), .int .i64 (Tri.b t), .int .i64 co]]) (.cons rfl (.cons rfl (.cons rfl (.cons rfl (.nil rfl))))) rfl fun fr => ?_
          rcases hx' with rfl | rfl | rfl
          · refine k_seq (k_region ?_)
            refine o_move rfl ?_
            refine o_eql rfl rfl rfl ?_
            refine o_move rfl ?_
            refine o_gS rfl rfl rfl rfl rfl ?_
            refine o_gS rfl rfl rfl rfl rfl ?_
            refine o_pickT rfl rfl rfl ?_
            refine o_move rfl ?_
            refine o_gS rfl rfl rfl rfl rfl ?_
            refine o_gS rfl rfl rfl rfl rfl ?_
            refine o_genA [(13, .int .i64 0), (16, .int .i64 x2), (17, .int .i64 30), (179, U.bool Bool.true), (181, U.tup [])] [] ([SB.box [U.lst Kd.ro 3 (trisU (Shop.tools s)), .int .i64 (Shop.flo s), .int .i64 (Shop.fhi s), U.lst Kd.ro 3 (trisU (Shop.keys s))], SB.box [.int .i64 (Tri.a q), .int .i64 (Tri.b q), .int .i64 (Tri.c q)], SB.box [.int .i64 a, .int .i64 b], SB.box [U.lst Kd.own 3 (trisU (Shop.tools s) ++ [U.agg [.int .i64 (Tri.a q), .int .i64 (Tri.b q), .int .i64 (Tri.c q)]]), .int .i64 (Shop.flo s), .int .i64 (Shop.fhi s), U.lst Kd.ro 3 (trisU (Shop.keys s))], SB.froz (List.map dg (triF (List.set (Shop.tools s) j { a := Tri.a t, b := Tri.b t, c := co }))), SB.box [.int .i64 (Tri.a t), .int .i64 (Tri.b t), .int .i64 co]]) (.cons rfl (.cons rfl (.cons rfl (.cons rfl (.cons rfl (.nil rfl)))))) rfl rfl fun fr => ?_
            refine o_gS rfl rfl rfl rfl rfl ?_
            refine o_dead rfl rfl rfl rfl ?_
            refine o_dead rfl rfl rfl rfl ?_
            refine o_dead rfl rfl rfl rfl ?_
            refine o_gS rfl rfl rfl rfl rfl ?_
            refine o_pickT rfl rfl rfl ?_
            refine o_move rfl ?_
            refine o_gD rfl rfl rfl rfl rfl ?_
            refine o_move rfl ?_
            refine o_gD rfl rfl rfl rfl rfl ?_
            refine o_eql rfl rfl rfl ?_
            refine o_genA [(17, .int .i64 30), (188, U.bool Bool.true), (190, U.bool (Decidable.decide ((30 : Int) = (0 : Int))))] [] ([SB.box [U.lst Kd.ro 3 (trisU (Shop.tools s)), .int .i64 (Shop.flo s), .int .i64 (Shop.fhi s), U.lst Kd.ro 3 (trisU (Shop.keys s))], SB.box [.int .i64 (Tri.a q), .int .i64 (Tri.b q), .int .i64 (Tri.c q)], SB.box [.int .i64 a, .int .i64 b], SB.box [U.lst Kd.own 3 (trisU (Shop.tools s) ++ [U.agg [.int .i64 (Tri.a q), .int .i64 (Tri.b q), .int .i64 (Tri.c q)]]), .int .i64 (Shop.flo s), .int .i64 (Shop.fhi s), U.lst Kd.ro 3 (trisU (Shop.keys s))], SB.froz (List.map dg (triF (List.set (Shop.tools s) j { a := Tri.a t, b := Tri.b t, c := co }))), SB.box [.int .i64 (Tri.a t), .int .i64 (Tri.b t), .int .i64 co]]) (.cons rfl (.cons rfl (.cons rfl (.nil rfl)))) rfl rfl fun fr => ?_
            refine o_gD rfl rfl rfl rfl rfl ?_
            refine o_genA [(17, .int .i64 30), (188, U.bool Bool.true), (190, U.bool (Decidable.decide ((30 : Int) = (0 : Int))))] [] ([SB.box [U.lst Kd.ro 3 (trisU (Shop.tools s)), .int .i64 (Shop.flo s), .int .i64 (Shop.fhi s), U.lst Kd.ro 3 (trisU (Shop.keys s))], SB.box [.int .i64 (Tri.a q), .int .i64 (Tri.b q), .int .i64 (Tri.c q)], SB.box [.int .i64 a, .int .i64 b], SB.box [U.lst Kd.own 3 (trisU (Shop.tools s) ++ [U.agg [.int .i64 (Tri.a q), .int .i64 (Tri.b q), .int .i64 (Tri.c q)]]), .int .i64 (Shop.flo s), .int .i64 (Shop.fhi s), U.lst Kd.ro 3 (trisU (Shop.keys s))], SB.froz (List.map dg (triF (List.set (Shop.tools s) j { a := Tri.a t, b := Tri.b t, c := co }))), SB.box [.int .i64 (Tri.a t), .int .i64 (Tri.b t), .int .i64 co]]) (.cons rfl (.cons rfl (.cons rfl (.nil rfl)))) rfl rfl fun fr => ?_
            refine o_move rfl ?_
            refine o_gD rfl rfl rfl rfl rfl ?_
            refine o_move rfl ?_
            refine o_gD rfl rfl rfl rfl rfl ?_
            refine o_eql rfl rfl rfl ?_
            refine o_gD rfl rfl rfl rfl rfl ?_
            refine o_pickF rfl rfl rfl ?_
            refine o_gD rfl rfl rfl rfl rfl ?_
            refine o_move rfl ?_
            refine o_gS rfl rfl rfl rfl rfl ?_
            refine o_gS rfl rfl rfl rfl rfl ?_
            refine o_gD rfl rfl rfl rfl rfl ?_
            refine o_pickT rfl rfl rfl ?_
            refine o_pickT rfl rfl rfl ?_
            refine o_genA [(199, U.bool Bool.true)] [] ([SB.box [U.lst Kd.ro 3 (trisU (Shop.tools s)), .int .i64 (Shop.flo s), .int .i64 (Shop.fhi s), U.lst Kd.ro 3 (trisU (Shop.keys s))], SB.box [.int .i64 (Tri.a q), .int .i64 (Tri.b q), .int .i64 (Tri.c q)], SB.box [.int .i64 a, .int .i64 b], SB.box [U.lst Kd.own 3 (trisU (Shop.tools s) ++ [U.agg [.int .i64 (Tri.a q), .int .i64 (Tri.b q), .int .i64 (Tri.c q)]]), .int .i64 (Shop.flo s), .int .i64 (Shop.fhi s), U.lst Kd.ro 3 (trisU (Shop.keys s))], SB.froz (List.map dg (triF (List.set (Shop.tools s) j { a := Tri.a t, b := Tri.b t, c := co }))), SB.box [.int .i64 (Tri.a t), .int .i64 (Tri.b t), .int .i64 co]]) (.cons rfl (.nil rfl)) rfl rfl fun fr => ?_
            refine o_move rfl ?_
            refine o_gD rfl rfl rfl rfl rfl ?_
            refine o_call rfl (r20) (.lrefl _) ?_
            refine o_pickT rfl rfl rfl ?_
            refine o_assign rfl ?_
            refine o_nil ?_
            refine k_ret ?_
            refine ⟨.inr rfl, _, .cons _ _ _ _ (.tmp 8) .nil, ?_⟩
            exact .refl _
          · refine k_seq (k_region ?_)
            refine o_move rfl ?_
            refine o_eql rfl rfl rfl ?_
            refine o_move rfl ?_
            refine o_gD rfl rfl rfl rfl rfl ?_
            refine o_move rfl ?_
            refine o_gD rfl rfl rfl rfl rfl ?_
            refine o_neq rfl rfl rfl ?_
            refine o_pickF rfl rfl rfl ?_
            refine o_move rfl ?_
            refine o_gS rfl rfl rfl rfl rfl ?_
            refine o_gS rfl rfl rfl rfl rfl ?_
            refine o_genA [(13, .int .i64 0), (16, .int .i64 x2), (17, .int .i64 4), (179, U.bool (Decidable.decide ((4 : Int) ≠ (0 : Int)))), (181, U.tup [])] [] ([SB.box [U.lst Kd.ro 3 (trisU (Shop.tools s)), .int .i64 (Shop.flo s), .int .i64 (Shop.fhi s), U.lst Kd.ro 3 (trisU (Shop.keys s))], SB.box [.int .i64 (Tri.a q), .int .i64 (Tri.b q), .int .i64 (Tri.c q)], SB.box [.int .i64 a, .int .i64 b], SB.box [U.lst Kd.own 3 (trisU (Shop.tools s) ++ [U.agg [.int .i64 (Tri.a q), .int .i64 (Tri.b q), .int .i64 (Tri.c q)]]), .int .i64 (Shop.flo s), .int .i64 (Shop.fhi s), U.lst Kd.ro 3 (trisU (Shop.keys s))], SB.froz (List.map dg (triF (List.set (Shop.tools s) j { a := Tri.a t, b := Tri.b t, c := co }))), SB.box [.int .i64 (Tri.a t), .int .i64 (Tri.b t), .int .i64 co]]) (.cons rfl (.cons rfl (.cons rfl (.cons rfl (.cons rfl (.nil rfl)))))) rfl rfl fun fr => ?_
            refine o_gS rfl rfl rfl rfl rfl ?_
            refine o_dead rfl rfl rfl rfl ?_
            refine o_dead rfl rfl rfl rfl ?_
            refine o_dead rfl rfl rfl rfl ?_
            refine o_gS rfl rfl rfl rfl rfl ?_
            refine o_pickT rfl rfl rfl ?_
            refine o_move rfl ?_
            refine o_gD rfl rfl rfl rfl rfl ?_
            refine o_move rfl ?_
            refine o_gD rfl rfl rfl rfl rfl ?_
            refine o_eql rfl rfl rfl ?_
            refine o_genA [(17, .int .i64 4), (188, U.bool Bool.true), (190, U.bool (Decidable.decide ((4 : Int) = (0 : Int))))] [] ([SB.box [U.lst Kd.ro 3 (trisU (Shop.tools s)), .int .i64 (Shop.flo s), .int .i64 (Shop.fhi s), U.lst Kd.ro 3 (trisU (Shop.keys s))], SB.box [.int .i64 (Tri.a q), .int .i64 (Tri.b q), .int .i64 (Tri.c q)], SB.box [.int .i64 a, .int .i64 b], SB.box [U.lst Kd.own 3 (trisU (Shop.tools s) ++ [U.agg [.int .i64 (Tri.a q), .int .i64 (Tri.b q), .int .i64 (Tri.c q)]]), .int .i64 (Shop.flo s), .int .i64 (Shop.fhi s), U.lst Kd.ro 3 (trisU (Shop.keys s))], SB.froz (List.map dg (triF (List.set (Shop.tools s) j { a := Tri.a t, b := Tri.b t, c := co }))), SB.box [.int .i64 (Tri.a t), .int .i64 (Tri.b t), .int .i64 co]]) (.cons rfl (.cons rfl (.cons rfl (.nil rfl)))) rfl rfl fun fr => ?_
            refine o_gD rfl rfl rfl rfl rfl ?_
            refine o_genA [(17, .int .i64 4), (188, U.bool Bool.true), (190, U.bool (Decidable.decide ((4 : Int) = (0 : Int))))] [] ([SB.box [U.lst Kd.ro 3 (trisU (Shop.tools s)), .int .i64 (Shop.flo s), .int .i64 (Shop.fhi s), U.lst Kd.ro 3 (trisU (Shop.keys s))], SB.box [.int .i64 (Tri.a q), .int .i64 (Tri.b q), .int .i64 (Tri.c q)], SB.box [.int .i64 a, .int .i64 b], SB.box [U.lst Kd.own 3 (trisU (Shop.tools s) ++ [U.agg [.int .i64 (Tri.a q), .int .i64 (Tri.b q), .int .i64 (Tri.c q)]]), .int .i64 (Shop.flo s), .int .i64 (Shop.fhi s), U.lst Kd.ro 3 (trisU (Shop.keys s))], SB.froz (List.map dg (triF (List.set (Shop.tools s) j { a := Tri.a t, b := Tri.b t, c := co }))), SB.box [.int .i64 (Tri.a t), .int .i64 (Tri.b t), .int .i64 co]]) (.cons rfl (.cons rfl (.cons rfl (.nil rfl)))) rfl rfl fun fr => ?_
            refine o_move rfl ?_
            refine o_gD rfl rfl rfl rfl rfl ?_
            refine o_move rfl ?_
            refine o_gD rfl rfl rfl rfl rfl ?_
            refine o_eql rfl rfl rfl ?_
            refine o_gD rfl rfl rfl rfl rfl ?_
            refine o_pickF rfl rfl rfl ?_
            refine o_gD rfl rfl rfl rfl rfl ?_
            refine o_move rfl ?_
            refine o_gD rfl rfl rfl rfl rfl ?_
            refine o_move rfl ?_
            refine o_gD rfl rfl rfl rfl rfl ?_
            refine o_eql rfl rfl rfl ?_
            refine o_gD rfl rfl rfl rfl rfl ?_
            refine o_pickF rfl rfl rfl ?_
            refine o_pickT rfl rfl rfl ?_
            refine o_genA [(199, U.bool (Decidable.decide ((4 : Int) = (4 : Int))))] [] ([SB.box [U.lst Kd.ro 3 (trisU (Shop.tools s)), .int .i64 (Shop.flo s), .int .i64 (Shop.fhi s), U.lst Kd.ro 3 (trisU (Shop.keys s))], SB.box [.int .i64 (Tri.a q), .int .i64 (Tri.b q), .int .i64 (Tri.c q)], SB.box [.int .i64 a, .int .i64 b], SB.box [U.lst Kd.own 3 (trisU (Shop.tools s) ++ [U.agg [.int .i64 (Tri.a q), .int .i64 (Tri.b q), .int .i64 (Tri.c q)]]), .int .i64 (Shop.flo s), .int .i64 (Shop.fhi s), U.lst Kd.ro 3 (trisU (Shop.keys s))], SB.froz (List.map dg (triF (List.set (Shop.tools s) j { a := Tri.a t, b := Tri.b t, c := co }))), SB.box [.int .i64 (Tri.a t), .int .i64 (Tri.b t), .int .i64 co]]) (.cons rfl (.nil rfl)) rfl rfl fun fr => ?_
            refine o_move rfl ?_
            refine o_gD rfl rfl rfl rfl rfl ?_
            refine o_call rfl (r20) (.lrefl _) ?_
            refine o_pickT rfl rfl rfl ?_
            refine o_assign rfl ?_
            refine o_nil ?_
            refine k_ret ?_
            refine ⟨.inr rfl, _, .cons _ _ _ _ (.tmp 8) .nil, ?_⟩
            exact .refl _
          · refine k_seq (k_region ?_)
            refine o_move rfl ?_
            refine o_eql rfl rfl rfl ?_
            refine o_move rfl ?_
            refine o_gD rfl rfl rfl rfl rfl ?_
            refine o_move rfl ?_
            refine o_gD rfl rfl rfl rfl rfl ?_
            refine o_neq rfl rfl rfl ?_
            refine o_pickF rfl rfl rfl ?_
            refine o_move rfl ?_
            refine o_gS rfl rfl rfl rfl rfl ?_
            refine o_gS rfl rfl rfl rfl rfl ?_
            refine o_genA [(13, .int .i64 0), (16, .int .i64 x2), (17, .int .i64 0), (179, U.bool (Decidable.decide ((4 : Int) ≠ (0 : Int)))), (181, U.tup [])] [] ([SB.box [U.lst Kd.ro 3 (trisU (Shop.tools s)), .int .i64 (Shop.flo s), .int .i64 (Shop.fhi s), U.lst Kd.ro 3 (trisU (Shop.keys s))], SB.box [.int .i64 (Tri.a q), .int .i64 (Tri.b q), .int .i64 (Tri.c q)], SB.box [.int .i64 a, .int .i64 b], SB.box [U.lst Kd.own 3 (trisU (Shop.tools s) ++ [U.agg [.int .i64 (Tri.a q), .int .i64 (Tri.b q), .int .i64 (Tri.c q)]]), .int .i64 (Shop.flo s), .int .i64 (Shop.fhi s), U.lst Kd.ro 3 (trisU (Shop.keys s))], SB.froz (List.map dg (triF (List.set (Shop.tools s) j { a := Tri.a t, b := Tri.b t, c := co }))), SB.box [.int .i64 (Tri.a t), .int .i64 (Tri.b t), .int .i64 co]]) (.cons rfl (.cons rfl (.cons rfl (.cons rfl (.cons rfl (.nil rfl)))))) rfl rfl fun fr => ?_
            refine o_gS rfl rfl rfl rfl rfl ?_
            refine o_dead rfl rfl rfl rfl ?_
            refine o_dead rfl rfl rfl rfl ?_
            refine o_dead rfl rfl rfl rfl ?_
            refine o_gS rfl rfl rfl rfl rfl ?_
            refine o_pickT rfl rfl rfl ?_
            refine o_move rfl ?_
            refine o_gD rfl rfl rfl rfl rfl ?_
            refine o_move rfl ?_
            refine o_gD rfl rfl rfl rfl rfl ?_
            refine o_eql rfl rfl rfl ?_
            refine o_genA [(17, .int .i64 0), (188, U.bool Bool.true), (190, U.bool (Decidable.decide ((0 : Int) = (0 : Int))))] [] ([SB.box [U.lst Kd.ro 3 (trisU (Shop.tools s)), .int .i64 (Shop.flo s), .int .i64 (Shop.fhi s), U.lst Kd.ro 3 (trisU (Shop.keys s))], SB.box [.int .i64 (Tri.a q), .int .i64 (Tri.b q), .int .i64 (Tri.c q)], SB.box [.int .i64 a, .int .i64 b], SB.box [U.lst Kd.own 3 (trisU (Shop.tools s) ++ [U.agg [.int .i64 (Tri.a q), .int .i64 (Tri.b q), .int .i64 (Tri.c q)]]), .int .i64 (Shop.flo s), .int .i64 (Shop.fhi s), U.lst Kd.ro 3 (trisU (Shop.keys s))], SB.froz (List.map dg (triF (List.set (Shop.tools s) j { a := Tri.a t, b := Tri.b t, c := co }))), SB.box [.int .i64 (Tri.a t), .int .i64 (Tri.b t), .int .i64 co]]) (.cons rfl (.cons rfl (.cons rfl (.nil rfl)))) rfl rfl fun fr => ?_
            refine o_gD rfl rfl rfl rfl rfl ?_
            refine o_genA [(17, .int .i64 0), (188, U.bool Bool.true), (190, U.bool (Decidable.decide ((0 : Int) = (0 : Int))))] [] ([SB.box [U.lst Kd.ro 3 (trisU (Shop.tools s)), .int .i64 (Shop.flo s), .int .i64 (Shop.fhi s), U.lst Kd.ro 3 (trisU (Shop.keys s))], SB.box [.int .i64 (Tri.a q), .int .i64 (Tri.b q), .int .i64 (Tri.c q)], SB.box [.int .i64 a, .int .i64 b], SB.box [U.lst Kd.own 3 (trisU (Shop.tools s) ++ [U.agg [.int .i64 (Tri.a q), .int .i64 (Tri.b q), .int .i64 (Tri.c q)]]), .int .i64 (Shop.flo s), .int .i64 (Shop.fhi s), U.lst Kd.ro 3 (trisU (Shop.keys s))], SB.froz (List.map dg (triF (List.set (Shop.tools s) j { a := Tri.a t, b := Tri.b t, c := co }))), SB.box [.int .i64 (Tri.a t), .int .i64 (Tri.b t), .int .i64 co]]) (.cons rfl (.cons rfl (.cons rfl (.nil rfl)))) rfl rfl fun fr => ?_
            refine o_move rfl ?_
            refine o_gS rfl rfl rfl rfl rfl ?_
            refine o_gS rfl rfl rfl rfl rfl ?_
            refine o_gD rfl rfl rfl rfl rfl ?_
            refine o_pickT rfl rfl rfl ?_
            refine o_gD rfl rfl rfl rfl rfl ?_
            refine o_move rfl ?_
            refine o_gS rfl rfl rfl rfl rfl ?_
            refine o_gS rfl rfl rfl rfl rfl ?_
            refine o_gD rfl rfl rfl rfl rfl ?_
            refine o_pickT rfl rfl rfl ?_
            refine o_pickT rfl rfl rfl ?_
            refine o_genA [(199, U.bool Bool.true)] [] ([SB.box [U.lst Kd.ro 3 (trisU (Shop.tools s)), .int .i64 (Shop.flo s), .int .i64 (Shop.fhi s), U.lst Kd.ro 3 (trisU (Shop.keys s))], SB.box [.int .i64 (Tri.a q), .int .i64 (Tri.b q), .int .i64 (Tri.c q)], SB.box [.int .i64 a, .int .i64 b], SB.box [U.lst Kd.own 3 (trisU (Shop.tools s) ++ [U.agg [.int .i64 (Tri.a q), .int .i64 (Tri.b q), .int .i64 (Tri.c q)]]), .int .i64 (Shop.flo s), .int .i64 (Shop.fhi s), U.lst Kd.ro 3 (trisU (Shop.keys s))], SB.froz (List.map dg (triF (List.set (Shop.tools s) j { a := Tri.a t, b := Tri.b t, c := co }))), SB.box [.int .i64 (Tri.a t), .int .i64 (Tri.b t), .int .i64 co]]) (.cons rfl (.nil rfl)) rfl rfl fun fr => ?_
            refine o_move rfl ?_
            refine o_gD rfl rfl rfl rfl rfl ?_
            refine o_call rfl (r20) (.lrefl _) ?_
            refine o_pickT rfl rfl rfl ?_
            refine o_assign rfl ?_
            refine o_nil ?_
            refine k_ret ?_
            refine ⟨.inr rfl, _, .cons _ _ _ _ (.tmp 8) .nil, ?_⟩
            exact .refl _
    · have hB : B.2 ≠ 31 := by omega
      have hC : C.2 ≠ 31 := by omega
      have hD : D.2 ≠ 31 := by omega
      have hG : G.2 ≠ 31 := by omega
      simp only [nxt, nxn, nxe, if_neg hA] at qa
      simp only [nxt, nxn, nxe, if_neg hB] at qb
      simp only [nxt, nxn, nxe, if_neg hG] at qe
      simp only [unN, unE, if_neg hC] at qc
      simp only [unN, unE, if_neg hD] at qd
      refine k_seq (k_region ?_)
      refine o_box rfl rfl ?_
      refine o_box rfl rfl ?_
      refine o_box rfl rfl ?_
      refine o_assign rfl ?_
      refine o_nil ?_
      refine k_gen [(3, .int .i64 n), (4, U.box 0 0), (5, U.box 1 0), (6, U.box 2 0)] ([SB.box [U.lst Kd.ro 3 (trisU (Shop.tools s)), .int .i64 (Shop.flo s), .int .i64 (Shop.fhi s), U.lst Kd.ro 3 (trisU (Shop.keys s))], SB.box [.int .i64 (Tri.a q), .int .i64 (Tri.b q), .int .i64 (Tri.c q)], SB.box [.int .i64 a, .int .i64 b]]) (.cons rfl (.cons rfl (.cons rfl (.cons rfl (.nil rfl))))) rfl fun fr => ?_
      refine k_seq ?_
      refine k_seq (k_region ?_)
      refine o_loadN rfl rfl rfl sh27 rfl ?_
      refine o_call rfl (ret32 hi hk) (.lrefl _) ?_
      refine o_not rfl rfl ?_
      refine o_nil ?_
      refine k_cF rfl rfl ?_
      refine k_skip ?_
      refine k_seq (k_region ?_)
      refine o_loadN rfl rfl rfl sh28 rfl ?_
      refine o_call rfl (ret33 hi ..) (.lrefl _) ?_
      refine o_move rfl ?_
      refine o_extract rfl rfl rfl ?_
      refine o_extract rfl rfl rfl ?_
      refine o_assign rfl ?_
      refine o_assign rfl ?_
      refine o_nil ?_
      refine k_seq (k_region ?_)
      refine o_move rfl ?_
      refine o_call rfl (ret39 hi ..) (.lrefl _) ?_
      refine o_move rfl ?_
      refine o_call rfl (q36) (.lrefl _) ?_
      refine o_assign rfl ?_
      refine o_nil ?_
      refine k_gen [(3, .int .i64 n), (4, U.box 0 0), (5, U.box 1 0), (9, .int .i64 (a % (121 : Int) - (60 : Int))), (10, .int .i64 (b % (31 : Int))), (11, .int .i64 m)] ([SB.box [U.lst Kd.ro 3 (trisU (Shop.tools s)), .int .i64 (Shop.flo s), .int .i64 (Shop.fhi s), U.lst Kd.ro 3 (trisU (Shop.keys s))], SB.box [.int .i64 (Tri.a q), .int .i64 (Tri.b q), .int .i64 (Tri.c q)], SB.box [.int .i64 a, .int .i64 b]]) (.cons rfl (.cons rfl (.cons rfl (.cons rfl (.cons rfl (.cons rfl (.nil rfl))))))) rfl fun fr => ?_
      refine k_seq (k_region ?_)
      refine o_loadN rfl rfl rfl sh27 rfl ?_
      refine o_move rfl ?_
      refine o_move rfl ?_
      refine o_call rfl (qa) (.lrefl _) ?_
      refine o_move rfl ?_
      refine o_extract rfl rfl rfl ?_
      refine o_extract rfl rfl rfl ?_
      refine o_extract rfl rfl rfl ?_
      refine o_assign rfl ?_
      refine o_assign rfl ?_
      refine o_assign rfl ?_
      refine o_nil ?_
      refine k_seq (k_region ?_)
      refine o_loadN rfl rfl rfl sh27 rfl ?_
      refine o_move rfl ?_
      refine o_move rfl ?_
      refine o_call rfl (qb) (.lrefl _) ?_
      refine o_move rfl ?_
      refine o_extract rfl rfl rfl ?_
      refine o_extract rfl rfl rfl ?_
      refine o_extract rfl rfl rfl ?_
      refine o_assign rfl ?_
      refine o_assign rfl ?_
      refine o_assign rfl ?_
      refine o_nil ?_
      refine k_gen [(3, .int .i64 n), (4, U.box 0 0), (5, U.box 1 0), (9, .int .i64 (a % (121 : Int) - (60 : Int))), (10, .int .i64 (b % (31 : Int))), (11, .int .i64 m), (13, .int .i64 (Prod.snd A)), (14, .int .i64 0), (16, .int .i64 (Prod.snd B)), (17, .int .i64 0)] ([SB.box [U.lst Kd.ro 3 (trisU (Shop.tools s)), .int .i64 (Shop.flo s), .int .i64 (Shop.fhi s), U.lst Kd.ro 3 (trisU (Shop.keys s))], SB.box [.int .i64 (Tri.a q), .int .i64 (Tri.b q), .int .i64 (Tri.c q)], SB.box [.int .i64 a, .int .i64 b]]) (.cons rfl (.cons rfl (.cons rfl (.cons rfl (.cons rfl (.cons rfl (.cons rfl (.cons rfl (.cons rfl (.cons rfl (.nil rfl))))))))))) rfl fun fr => ?_
      refine k_seq (k_region ?_)
      refine o_loadN rfl rfl rfl sh27 rfl ?_
      refine o_move rfl ?_
      refine o_move rfl ?_
      refine o_call rfl (qc) (.lrefl _) ?_
      refine o_move rfl ?_
      refine o_extract rfl rfl rfl ?_
      refine o_extract rfl rfl rfl ?_
      refine o_assign rfl ?_
      refine o_assign rfl ?_
      refine o_nil ?_
      refine k_seq (k_region ?_)
      refine o_loadN rfl rfl rfl sh27 rfl ?_
      refine o_move rfl ?_
      refine o_move rfl ?_
      refine o_call rfl (qd) (.lrefl _) ?_
      refine o_move rfl ?_
      refine o_extract rfl rfl rfl ?_
      refine o_extract rfl rfl rfl ?_
      refine o_assign rfl ?_
      refine o_assign rfl ?_
      refine o_nil ?_
      refine k_gen [(3, .int .i64 n), (4, U.box 0 0), (5, U.box 1 0), (9, .int .i64 (a % (121 : Int) - (60 : Int))), (10, .int .i64 (b % (31 : Int))), (13, .int .i64 (Prod.snd A)), (14, .int .i64 0), (16, .int .i64 (Prod.snd B)), (17, .int .i64 0), (18, .int .i64 (Prod.snd C)), (19, .int .i64 0), (20, .int .i64 (Prod.snd D)), (21, .int .i64 0)] ([SB.box [U.lst Kd.ro 3 (trisU (Shop.tools s)), .int .i64 (Shop.flo s), .int .i64 (Shop.fhi s), U.lst Kd.ro 3 (trisU (Shop.keys s))], SB.box [.int .i64 (Tri.a q), .int .i64 (Tri.b q), .int .i64 (Tri.c q)], SB.box [.int .i64 a, .int .i64 b]]) (.cons rfl (.cons rfl (.cons rfl (.cons rfl (.cons rfl (.cons rfl (.cons rfl (.cons rfl (.cons rfl (.cons rfl (.cons rfl (.cons rfl (.cons rfl (.nil rfl)))))))))))))) rfl fun fr => ?_
      refine k_seq ?_
      refine k_seq (k_region ?_)
      refine o_move rfl ?_
      refine o_eql rfl rfl rfl ?_
      refine o_move rfl ?_
      refine o_gD rfl rfl rfl rfl rfl ?_
      refine o_move rfl ?_
      refine o_gD rfl rfl rfl rfl rfl ?_
      refine o_neq rfl rfl rfl ?_
      refine o_gD rfl rfl rfl rfl rfl ?_
      refine o_move rfl ?_
      refine o_gD rfl rfl rfl rfl rfl ?_
      refine o_move rfl ?_
      refine o_gD rfl rfl rfl rfl rfl ?_
      refine o_move rfl ?_
      refine o_gD rfl rfl rfl rfl rfl ?_
      refine o_gtr rfl rfl rfl ?_
      refine o_genA [(3, .int .i64 n), (4, U.box 0 0), (5, U.box 1 0), (9, .int .i64 (a % (121 : Int) - (60 : Int))), (10, .int .i64 (b % (31 : Int))), (13, .int .i64 (Prod.snd A)), (14, .int .i64 0), (18, .int .i64 (Prod.snd C)), (19, .int .i64 0), (20, .int .i64 (Prod.snd D)), (21, .int .i64 0), (70, U.bool (Decidable.decide ((0 : Int) = (0 : Int)))), (73, U.bool (Decidable.decide ((0 : Int) ≠ (0 : Int)))), (76, U.bool (Decidable.decide (Prod.snd A < Prod.snd B)))] [] ([SB.box [U.lst Kd.ro 3 (trisU (Shop.tools s)), .int .i64 (Shop.flo s), .int .i64 (Shop.fhi s), U.lst Kd.ro 3 (trisU (Shop.keys s))], SB.box [.int .i64 (Tri.a q), .int .i64 (Tri.b q), .int .i64 (Tri.c q)], SB.box [.int .i64 a, .int .i64 b]]) (.cons rfl (.cons rfl (.cons rfl (.cons rfl (.cons rfl (.cons rfl (.cons rfl (.cons rfl (.cons rfl (.cons rfl (.cons rfl (.cons rfl (.cons rfl (.cons rfl (.nil rfl))))))))))))))) rfl rfl fun fr => ?_
      refine o_gD rfl rfl rfl rfl rfl ?_
      refine o_genA [(3, .int .i64 n), (4, U.box 0 0), (5, U.box 1 0), (9, .int .i64 (a % (121 : Int) - (60 : Int))), (10, .int .i64 (b % (31 : Int))), (13, .int .i64 (Prod.snd A)), (14, .int .i64 0), (18, .int .i64 (Prod.snd C)), (19, .int .i64 0), (20, .int .i64 (Prod.snd D)), (21, .int .i64 0), (70, U.bool (Decidable.decide ((0 : Int) = (0 : Int)))), (73, U.bool (Decidable.decide ((0 : Int) ≠ (0 : Int)))), (76, U.bool (Decidable.decide (Prod.snd A < Prod.snd B)))] [] ([SB.box [U.lst Kd.ro 3 (trisU (Shop.tools s)), .int .i64 (Shop.flo s), .int .i64 (Shop.fhi s), U.lst Kd.ro 3 (trisU (Shop.keys s))], SB.box [.int .i64 (Tri.a q), .int .i64 (Tri.b q), .int .i64 (Tri.c q)], SB.box [.int .i64 a, .int .i64 b]]) (.cons rfl (.cons rfl (.cons rfl (.cons rfl (.cons rfl (.cons rfl (.cons rfl (.cons rfl (.cons rfl (.cons rfl (.cons rfl (.cons rfl (.cons rfl (.cons rfl (.nil rfl))))))))))))))) rfl rfl fun fr => ?_
      refine o_pickF rfl rfl rfl ?_
      refine o_pickT rfl rfl rfl ?_
      refine o_move rfl ?_
      refine o_gD rfl rfl rfl rfl (decide_eq_false (by omega)) ?_
      refine o_move rfl ?_
      refine o_gD rfl rfl rfl rfl (decide_eq_false (by omega)) ?_
      refine o_eql rfl rfl rfl ?_
      refine o_gD rfl rfl rfl rfl (decide_eq_false (by omega)) ?_
      refine o_move rfl ?_
      refine o_gD rfl rfl rfl rfl rfl ?_
      refine o_move rfl ?_
      refine o_gD rfl rfl rfl rfl rfl ?_
      refine o_neq rfl rfl rfl ?_
      refine o_gD rfl rfl rfl rfl rfl ?_
      refine o_move rfl ?_
      refine o_genA [(3, .int .i64 n), (4, U.box 0 0), (5, U.box 1 0), (9, .int .i64 (a % (121 : Int) - (60 : Int))), (10, .int .i64 (b % (31 : Int))), (13, .int .i64 (Prod.snd A)), (14, .int .i64 0), (18, .int .i64 (Prod.snd C)), (19, .int .i64 0), (20, .int .i64 (Prod.snd D)), (79, U.bool (Decidable.decide (Prod.snd A < Prod.snd B))), (82, U.bool (Decidable.decide ((0 : Int) = (0 : Int)))), (85, U.bool (Decidable.decide ((0 : Int) ≠ (0 : Int))))] [] ([SB.box [U.lst Kd.ro 3 (trisU (Shop.tools s)), .int .i64 (Shop.flo s), .int .i64 (Shop.fhi s), U.lst Kd.ro 3 (trisU (Shop.keys s))], SB.box [.int .i64 (Tri.a q), .int .i64 (Tri.b q), .int .i64 (Tri.c q)], SB.box [.int .i64 a, .int .i64 b]]) (.cons rfl (.cons rfl (.cons rfl (.cons rfl (.cons rfl (.cons rfl (.cons rfl (.cons rfl (.cons rfl (.cons rfl (.cons rfl (.cons rfl (.cons rfl (.nil rfl)))))))))))))) rfl rfl fun fr => ?_
      refine o_gD rfl rfl rfl rfl rfl ?_
      refine o_genA [(3, .int .i64 n), (4, U.box 0 0), (5, U.box 1 0), (9, .int .i64 (a % (121 : Int) - (60 : Int))), (10, .int .i64 (b % (31 : Int))), (13, .int .i64 (Prod.snd A)), (14, .int .i64 0), (18, .int .i64 (Prod.snd C)), (19, .int .i64 0), (20, .int .i64 (Prod.snd D)), (79, U.bool (Decidable.decide (Prod.snd A < Prod.snd B))), (82, U.bool (Decidable.decide ((0 : Int) = (0 : Int)))), (85, U.bool (Decidable.decide ((0 : Int) ≠ (0 : Int))))] [] ([SB.box [U.lst Kd.ro 3 (trisU (Shop.tools s)), .int .i64 (Shop.flo s), .int .i64 (Shop.fhi s), U.lst Kd.ro 3 (trisU (Shop.keys s))], SB.box [.int .i64 (Tri.a q), .int .i64 (Tri.b q), .int .i64 (Tri.c q)], SB.box [.int .i64 a, .int .i64 b]]) (.cons rfl (.cons rfl (.cons rfl (.cons rfl (.cons rfl (.cons rfl (.cons rfl (.cons rfl (.cons rfl (.cons rfl (.cons rfl (.cons rfl (.cons rfl (.nil rfl)))))))))))))) rfl rfl fun fr => ?_
      refine o_move rfl ?_
      refine o_gD rfl rfl rfl rfl rfl ?_
      refine o_move rfl ?_
      refine o_gD rfl rfl rfl rfl rfl ?_
      refine o_gtr rfl rfl rfl ?_
      refine o_gD rfl rfl rfl rfl rfl ?_
      refine o_pickF rfl rfl rfl ?_
      refine o_gD rfl rfl rfl rfl (decide_eq_false (by omega)) ?_
      refine o_pickT rfl rfl rfl ?_
      refine o_pickF rfl rfl (decide_eq_false (by omega)) ?_
      refine o_move rfl ?_
      refine o_gD rfl rfl rfl rfl (decide_eq_false (by omega)) ?_
      refine o_move rfl ?_
      refine o_gD rfl rfl rfl rfl (decide_eq_false (by omega)) ?_
      refine o_eql rfl rfl rfl ?_
      refine o_genA [(3, .int .i64 n), (4, U.box 0 0), (5, U.box 1 0), (9, .int .i64 (a % (121 : Int) - (60 : Int))), (10, .int .i64 (b % (31 : Int))), (13, .int .i64 (Prod.snd A)), (14, .int .i64 0), (18, .int .i64 (Prod.snd C)), (19, .int .i64 0), (92, U.bool (Decidable.decide (Prod.snd C < Prod.snd D))), (94, U.bool (Decidable.decide ((0 : Int) = (0 : Int))))] [] ([SB.box [U.lst Kd.ro 3 (trisU (Shop.tools s)), .int .i64 (Shop.flo s), .int .i64 (Shop.fhi s), U.lst Kd.ro 3 (trisU (Shop.keys s))], SB.box [.int .i64 (Tri.a q), .int .i64 (Tri.b q), .int .i64 (Tri.c q)], SB.box [.int .i64 a, .int .i64 b]]) (.cons rfl (.cons rfl (.cons rfl (.cons rfl (.cons rfl (.cons rfl (.cons rfl (.cons rfl (.cons rfl (.cons rfl (.cons rfl (.nil rfl)))))))))))) rfl rfl fun fr => ?_
      refine o_gD rfl rfl rfl rfl (decide_eq_false (by omega)) ?_
      refine o_genA [(3, .int .i64 n), (4, U.box 0 0), (5, U.box 1 0), (9, .int .i64 (a % (121 : Int) - (60 : Int))), (10, .int .i64 (b % (31 : Int))), (13, .int .i64 (Prod.snd A)), (14, .int .i64 0), (18, .int .i64 (Prod.snd C)), (19, .int .i64 0), (92, U.bool (Decidable.decide (Prod.snd C < Prod.snd D))), (94, U.bool (Decidable.decide ((0 : Int) = (0 : Int))))] [] ([SB.box [U.lst Kd.ro 3 (trisU (Shop.tools s)), .int .i64 (Shop.flo s), .int .i64 (Shop.fhi s), U.lst Kd.ro 3 (trisU (Shop.keys s))], SB.box [.int .i64 (Tri.a q), .int .i64 (Tri.b q), .int .i64 (Tri.c q)], SB.box [.int .i64 a, .int .i64 b]]) (.cons rfl (.cons rfl (.cons rfl (.cons rfl (.cons rfl (.cons rfl (.cons rfl (.cons rfl (.cons rfl (.cons rfl (.cons rfl (.nil rfl)))))))))))) rfl rfl fun fr => ?_
      refine o_move rfl ?_
      refine o_gD rfl rfl rfl rfl rfl ?_
      refine o_move rfl ?_
      refine o_gD rfl rfl rfl rfl rfl ?_
      refine o_neq rfl rfl rfl ?_
      refine o_gD rfl rfl rfl rfl rfl ?_
      refine o_move rfl ?_
      refine o_gD rfl rfl rfl rfl rfl ?_
      refine o_move rfl ?_
      refine o_gD rfl rfl rfl rfl rfl ?_
      refine o_move rfl ?_
      refine o_gD rfl rfl rfl rfl rfl ?_
      refine o_gtr rfl rfl rfl ?_
      refine o_gD rfl rfl rfl rfl rfl ?_
      refine o_pickF rfl rfl rfl ?_
      refine o_gD rfl rfl rfl rfl (decide_eq_false (by omega)) ?_
      refine o_pickT rfl rfl rfl ?_
      refine o_genA [(3, .int .i64 n), (4, U.box 0 0), (5, U.box 1 0), (9, .int .i64 (a % (121 : Int) - (60 : Int))), (10, .int .i64 (b % (31 : Int))), (13, .int .i64 (Prod.snd A)), (14, .int .i64 0), (92, U.bool (Decidable.decide (Prod.snd C < Prod.snd D))), (103, U.bool (Decidable.decide (Prod.snd A < Prod.snd C)))] [] ([SB.box [U.lst Kd.ro 3 (trisU (Shop.tools s)), .int .i64 (Shop.flo s), .int .i64 (Shop.fhi s), U.lst Kd.ro 3 (trisU (Shop.keys s))], SB.box [.int .i64 (Tri.a q), .int .i64 (Tri.b q), .int .i64 (Tri.c q)], SB.box [.int .i64 a, .int .i64 b]]) (.cons rfl (.cons rfl (.cons rfl (.cons rfl (.cons rfl (.cons rfl (.cons rfl (.cons rfl (.cons rfl (.nil rfl)))))))))) rfl rfl fun fr => ?_
      refine o_pickF rfl rfl (decide_eq_false (by omega)) ?_
      refine o_nil ?_
      refine k_gen [(3, .int .i64 n), (4, U.box 0 0), (5, U.box 1 0), (9, .int .i64 (a % (121 : Int) - (60 : Int))), (10, .int .i64 (b % (31 : Int))), (13, .int .i64 (Prod.snd A)), (14, .int .i64 0), (104, U.bool (Decidable.decide (Prod.snd A < Prod.snd C)))] ([SB.box [U.lst Kd.ro 3 (trisU (Shop.tools s)), .int .i64 (Shop.flo s), .int .i64 (Shop.fhi s), U.lst Kd.ro 3 (trisU (Shop.keys s))], SB.box [.int .i64 (Tri.a q), .int .i64 (Tri.b q), .int .i64 (Tri.c q)], SB.box [.int .i64 a, .int .i64 b]]) (.cons rfl (.cons rfl (.cons rfl (.cons rfl (.cons rfl (.cons rfl (.cons rfl (.cons rfl (.nil rfl))))))))) rfl fun fr => ?_
      refine k_cF rfl (decide_eq_false (by omega)) ?_
      refine k_skip ?_
      refine k_seq (k_region ?_)
      refine o_loadN rfl rfl rfl sh27 rfl ?_
      refine o_alloc rfl ze27 ?_
      refine o_storeN rfl rfl sh27 rfl rfl rfl rfl rfl ?_
      refine o_nil ?_
      refine k_gen [(3, .int .i64 n), (4, U.box 0 0), (5, U.box 1 0), (9, .int .i64 (a % (121 : Int) - (60 : Int))), (10, .int .i64 (b % (31 : Int))), (13, .int .i64 (Prod.snd A)), (14, .int .i64 0), (22, U.box 3 0)] ([SB.box [U.lst Kd.ro 3 (trisU (Shop.tools s)), .int .i64 (Shop.flo s), .int .i64 (Shop.fhi s), U.lst Kd.ro 3 (trisU (Shop.keys s))], SB.box [.int .i64 (Tri.a q), .int .i64 (Tri.b q), .int .i64 (Tri.c q)], SB.box [.int .i64 a, .int .i64 b], SB.box [U.lst Kd.ro 3 (trisU (Shop.tools s)), .int .i64 (Shop.flo s), .int .i64 (Shop.fhi s), U.lst Kd.ro 3 (trisU (Shop.keys s))]]) (.cons rfl (.cons rfl (.cons rfl (.cons rfl (.cons rfl (.cons rfl (.cons rfl (.cons rfl (.nil rfl))))))))) rfl fun fr => ?_
      refine k_seq (k_region ?_)
      refine o_lit (es := []) rfl ty22 ze52 cl52 rfl rfl rfl rfl rfl rfl rfl rfl ?_
      refine o_faddr rfl rfl fld27_0 ?_
      refine o_load1 rfl rfl rfl sh22 rfl ?_
      refine o_appendB rfl ap22_22 rfl rfl (by simp) (by simp) (trisU_one _) (by rw [triF_flat, triF_dg]) (List.length_map _) (by omega) (by omega) ?_
      refine o_faddr rfl rfl fld27_0 ?_
      refine o_store1 rfl rfl sh22 rfl rfl ?_
      refine o_nil ?_
      refine k_gen [(3, .int .i64 n), (4, U.box 0 0), (5, U.box 1 0), (9, .int .i64 (a % (121 : Int) - (60 : Int))), (10, .int .i64 (b % (31 : Int))), (13, .int .i64 (Prod.snd A)), (14, .int .i64 0), (22, U.box 3 0)] ([SB.box [U.lst Kd.ro 3 (trisU (Shop.tools s)), .int .i64 (Shop.flo s), .int .i64 (Shop.fhi s), U.lst Kd.ro 3 (trisU (Shop.keys s))], SB.box [.int .i64 (Tri.a q), .int .i64 (Tri.b q), .int .i64 (Tri.c q)], SB.box [.int .i64 a, .int .i64 b], SB.box [U.sl 4 0 (List.length (Shop.tools s)) 3, .int .i64 (Shop.flo s), .int .i64 (Shop.fhi s), U.lst Kd.ro 3 (trisU (Shop.keys s))], SB.box (triF (Shop.tools s))]) (.cons rfl (.cons rfl (.cons rfl (.cons rfl (.cons rfl (.cons rfl (.cons rfl (.cons rfl (.nil rfl))))))))) rfl fun fr => ?_
      refine k_seq (k_region ?_)
      refine o_move rfl ?_
      refine o_faddr rfl rfl fld27_0 ?_
      refine o_load1 rfl rfl rfl sh22 rfl ?_
      refine o_len rfl ty22 rfl (List.length_map _) ?_
      refine o_call rfl (q40) (.lrefl _) ?_
      refine o_assign rfl ?_
      refine o_nil ?_
      refine k_seq (k_region ?_)
      refine o_faddr rfl rfl fld27_0 ?_
      refine o_load1 rfl rfl rfl sh22 rfl ?_
      refine o_move rfl ?_
      refine o_idx (u := (t).u) rfl ty22 rfl rfl (Int.natCast_nonneg _) (by simp [hq]) cl52 ?_
      refine o_loadRN rfl rfl sh52 rfl ?_
      refine o_alloc rfl ze52 ?_
      refine o_storeN rfl rfl sh52 rfl rfl rfl rfl rfl ?_
      refine o_nil ?_
      refine k_gen [(3, .int .i64 n), (4, U.box 0 0), (5, U.box 1 0), (9, .int .i64 (a % (121 : Int) - (60 : Int))), (10, .int .i64 (b % (31 : Int))), (13, .int .i64 (Prod.snd A)), (14, .int .i64 0), (22, U.box 3 0), (23, .int .i64 ↑j), (24, U.box 5 0)] ([SB.box [U.lst Kd.ro 3 (trisU (Shop.tools s)), .int .i64 (Shop.flo s), .int .i64 (Shop.fhi s), U.lst Kd.ro 3 (trisU (Shop.keys s))], SB.box [.int .i64 (Tri.a q), .int .i64 (Tri.b q), .int .i64 (Tri.c q)], SB.box [.int .i64 a, .int .i64 b], SB.box [U.sl 4 0 (List.length (Shop.tools s)) 3, .int .i64 (Shop.flo s), .int .i64 (Shop.fhi s), U.lst Kd.ro 3 (trisU (Shop.keys s))], SB.box (triF (Shop.tools s)), SB.box [.int .i64 (Tri.a t), .int .i64 (Tri.b t), .int .i64 (Tri.c t)]]) (.cons rfl (.cons rfl (.cons rfl (.cons rfl (.cons rfl (.cons rfl (.cons rfl (.cons rfl (.cons rfl (.cons rfl (.nil rfl))))))))))) rfl fun fr => ?_
      refine k_seq (k_region ?_)
      refine o_faddr rfl rfl fld52_1 ?_
      refine o_load1 rfl rfl rfl sh3 rfl ?_
      refine o_call rfl (ret39 hi ..) (.lrefl _) ?_
      refine o_move rfl ?_
      refine o_call rfl (q36c) (.lrefl _) ?_
      refine o_faddr rfl rfl fld52_1 ?_
      refine o_store1 rfl rfl sh3 rfl rfl ?_
      refine o_nil ?_
      refine k_gen [(4, U.box 0 0), (5, U.box 1 0), (9, .int .i64 (a % (121 : Int) - (60 : Int))), (10, .int .i64 (b % (31 : Int))), (13, .int .i64 (Prod.snd A)), (14, .int .i64 0), (22, U.box 3 0), (23, .int .i64 ↑j), (24, U.box 5 0)] ([SB.box [U.lst Kd.ro 3 (trisU (Shop.tools s)), .int .i64 (Shop.flo s), .int .i64 (Shop.fhi s), U.lst Kd.ro 3 (trisU (Shop.keys s))], SB.box [.int .i64 (Tri.a q), .int .i64 (Tri.b q), .int .i64 (Tri.c q)], SB.box [.int .i64 a, .int .i64 b], SB.box [U.sl 4 0 (List.length (Shop.tools s)) 3, .int .i64 (Shop.flo s), .int .i64 (Shop.fhi s), U.lst Kd.ro 3 (trisU (Shop.keys s))], SB.box (triF (Shop.tools s)), SB.box [.int .i64 (Tri.a t), .int .i64 (Tri.b t), .int .i64 co]]) (.cons rfl (.cons rfl (.cons rfl (.cons rfl (.cons rfl (.cons rfl (.cons rfl (.cons rfl (.cons rfl (.nil rfl)))))))))) rfl fun fr => ?_
      refine k_seq (k_region ?_)
      refine o_faddr rfl rfl fld27_0 ?_
      refine o_load1 rfl rfl rfl sh22 rfl ?_
      refine o_move rfl ?_
      refine o_loadN rfl rfl rfl sh52 rfl ?_
      refine o_idxS rfl ty22 rfl rfl (Int.natCast_nonneg _) (by omega) cl52 ?_
      refine o_storeNW rfl rfl sh52 rfl rfl rfl (by rw [hfl]; omega) rfl hset ?_
      refine o_nil ?_
      refine k_gen [(4, U.box 0 0), (5, U.box 1 0), (9, .int .i64 (a % (121 : Int) - (60 : Int))), (10, .int .i64 (b % (31 : Int))), (13, .int .i64 (Prod.snd A)), (14, .int .i64 0), (22, U.box 3 0)] ([SB.box [U.lst Kd.ro 3 (trisU (Shop.tools s)), .int .i64 (Shop.flo s), .int .i64 (Shop.fhi s), U.lst Kd.ro 3 (trisU (Shop.keys s))], SB.box [.int .i64 (Tri.a q), .int .i64 (Tri.b q), .int .i64 (Tri.c q)], SB.box [.int .i64 a, .int .i64 b], SB.box [U.sl 4 0 (List.length (Shop.tools s)) 3, .int .i64 (Shop.flo s), .int .i64 (Shop.fhi s), U.lst Kd.ro 3 (trisU (Shop.keys s))], SB.box (triF (List.set (Shop.tools s) j { a := Tri.a t, b := Tri.b t, c := co })), SB.box [.int .i64 (Tri.a t), .int .i64 (Tri.b t), .int .i64 co]]) (.cons rfl (.cons rfl (.cons rfl (.cons rfl (.cons rfl (.cons rfl (.cons rfl (.nil rfl)))))))) rfl fun fr => ?_
      refine k_seq (k_region ?_)
      refine o_frz (a := 4) rfl ?_
      refine o_loadN rfl rfl rfl sh27 rfl ?_
      refine o_see 133 rfl (fun _ => rfl) (.agg _ _ (.lcons _ _ _ _ (.sl _ _ _ _ _ _ rfl hfs hez hel hle) (.lrefl _))) ?_
      refine o_move rfl ?_
      refine o_move rfl ?_
      refine o_call rfl (qe) (.lrefl _) ?_
      refine o_move rfl ?_
      refine o_extract rfl rfl rfl ?_
      refine o_extract rfl rfl rfl ?_
      refine o_extract rfl rfl rfl ?_
      refine o_assign rfl ?_
      refine o_assign rfl ?_
      refine o_nil ?_
      refine k_gen [(4, U.box 0 0), (5, U.box 1 0), (9, .int .i64 (a % (121 : Int) - (60 : Int))), (10, .int .i64 (b % (31 : Int))), (13, .int .i64 (Prod.snd A)), (14, .int .i64 0), (16, .int .i64 (Prod.snd G)), (17, .int .i64 0), (22, U.box 3 0)] ([SB.box [U.lst Kd.ro 3 (trisU (Shop.tools s)), .int .i64 (Shop.flo s), .int .i64 (Shop.fhi s), U.lst Kd.ro 3 (trisU (Shop.keys s))], SB.box [.int .i64 (Tri.a q), .int .i64 (Tri.b q), .int .i64 (Tri.c q)], SB.box [.int .i64 a, .int .i64 b], SB.box [U.sl 4 0 (List.length (Shop.tools s)) 3, .int .i64 (Shop.flo s), .int .i64 (Shop.fhi s), U.lst Kd.ro 3 (trisU (Shop.keys s))], SB.froz (List.map dg (triF (List.set (Shop.tools s) j { a := Tri.a t, b := Tri.b t, c := co }))), SB.box [.int .i64 (Tri.a t), .int .i64 (Tri.b t), .int .i64 co]]) (.cons rfl (.cons rfl (.cons rfl (.cons rfl (.cons rfl (.cons rfl (.cons rfl (.cons rfl (.cons rfl (.nil rfl)))))))))) rfl fun fr => ?_
      refine k_seq ?_
      refine k_seq (k_region ?_)
      refine o_move rfl ?_
      refine o_eql rfl rfl rfl ?_
      refine o_move rfl ?_
      refine o_gD rfl rfl rfl rfl rfl ?_
      refine o_move rfl ?_
      refine o_gD rfl rfl rfl rfl rfl ?_
      refine o_neq rfl rfl rfl ?_
      refine o_gD rfl rfl rfl rfl rfl ?_
      refine o_move rfl ?_
      refine o_gD rfl rfl rfl rfl rfl ?_
      refine o_move rfl ?_
      refine o_gD rfl rfl rfl rfl rfl ?_
      refine o_move rfl ?_
      refine o_gD rfl rfl rfl rfl rfl ?_
      refine o_gtr rfl rfl rfl ?_
      refine o_gD rfl rfl rfl rfl rfl ?_
      refine o_pickF rfl rfl rfl ?_
      refine o_pickT rfl rfl rfl ?_
      refine o_nil ?_
      refine k_gen [(4, U.box 0 0), (5, U.box 1 0), (9, .int .i64 (a % (121 : Int) - (60 : Int))), (10, .int .i64 (b % (31 : Int))), (13, .int .i64 (Prod.snd A)), (14, .int .i64 0), (22, U.box 3 0), (150, U.bool (Decidable.decide (Prod.snd A < Prod.snd G)))] ([SB.box [U.lst Kd.ro 3 (trisU (Shop.tools s)), .int .i64 (Shop.flo s), .int .i64 (Shop.fhi s), U.lst Kd.ro 3 (trisU (Shop.keys s))], SB.box [.int .i64 (Tri.a q), .int .i64 (Tri.b q), .int .i64 (Tri.c q)], SB.box [.int .i64 a, .int .i64 b], SB.box [U.sl 4 0 (List.length (Shop.tools s)) 3, .int .i64 (Shop.flo s), .int .i64 (Shop.fhi s), U.lst Kd.ro 3 (trisU (Shop.keys s))], SB.froz (List.map dg (triF (List.set (Shop.tools s) j { a := Tri.a t, b := Tri.b t, c := co }))), SB.box [.int .i64 (Tri.a t), .int .i64 (Tri.b t), .int .i64 co]]) (.cons rfl (.cons rfl (.cons rfl (.cons rfl (.cons rfl (.cons rfl (.cons rfl (.cons rfl (.nil rfl))))))))) rfl fun fr => ?_
      refine k_cF rfl (decide_eq_false (by omega)) ?_
      refine k_skip ?_
      refine k_seq ?_
      refine k_seq (k_region ?_)
      refine o_faddr rfl rfl fld27_0 ?_
      refine o_load1 rfl rfl rfl sh22 rfl ?_
      refine o_len rfl ty22 rfl (List.length_map _) ?_
      refine o_eql rfl rfl rfl ?_
      refine o_nil ?_
      refine k_gen [(4, U.box 0 0), (5, U.box 1 0), (9, .int .i64 (a % (121 : Int) - (60 : Int))), (10, .int .i64 (b % (31 : Int))), (13, .int .i64 (Prod.snd A)), (14, .int .i64 0), (22, U.box 3 0), (154, U.bool (Decidable.decide (↑(List.length (Shop.tools s)) = (4 : Int))))] ([SB.box [U.lst Kd.ro 3 (trisU (Shop.tools s)), .int .i64 (Shop.flo s), .int .i64 (Shop.fhi s), U.lst Kd.ro 3 (trisU (Shop.keys s))], SB.box [.int .i64 (Tri.a q), .int .i64 (Tri.b q), .int .i64 (Tri.c q)], SB.box [.int .i64 a, .int .i64 b], SB.box [U.sl 4 0 (List.length (Shop.tools s)) 3, .int .i64 (Shop.flo s), .int .i64 (Shop.fhi s), U.lst Kd.ro 3 (trisU (Shop.keys s))], SB.froz (List.map dg (triF (List.set (Shop.tools s) j { a := Tri.a t, b := Tri.b t, c := co }))), SB.box [.int .i64 (Tri.a t), .int .i64 (Tri.b t), .int .i64 co]]) (.cons rfl (.cons rfl (.cons rfl (.cons rfl (.cons rfl (.cons rfl (.cons rfl (.cons rfl (.nil rfl))))))))) rfl fun fr => ?_
      refine k_cond rfl (fun h154 => ?_) (fun h154 => ?_)
      · refine k_seq (k_region ?_)
        refine o_call rfl (r20) (.lrefl _) ?_
        refine o_assign rfl ?_
        refine o_nil ?_
        refine k_ret ?_
        refine ⟨.inr rfl, _, .cons _ _ _ _ (.tmp 8) .nil, ?_⟩
        exact .refl _
      · refine k_skip ?_
        refine k_seq (k_region ?_)
        refine o_loadN rfl rfl rfl sh27 rfl ?_
        refine o_storeN rfl rfl sh27 rfl rfl rfl rfl rfl ?_
        refine o_nil ?_
        refine k_gen [(4, U.box 0 0), (5, U.box 1 0), (9, .int .i64 (a % (121 : Int) - (60 : Int))), (10, .int .i64 (b % (31 : Int))), (13, .int .i64 (Prod.snd A)), (14, .int .i64 0), (22, U.box 3 0)] ([SB.box [U.lst Kd.ro 3 (trisU (Shop.tools s)), .int .i64 (Shop.flo s), .int .i64 (Shop.fhi s), U.lst Kd.ro 3 (trisU (Shop.keys s))], SB.box [.int .i64 (Tri.a q), .int .i64 (Tri.b q), .int .i64 (Tri.c q)], SB.box [.int .i64 a, .int .i64 b], SB.box [U.lst Kd.ro 3 (trisU (Shop.tools s)), .int .i64 (Shop.flo s), .int .i64 (Shop.fhi s), U.lst Kd.ro 3 (trisU (Shop.keys s))], SB.froz (List.map dg (triF (List.set (Shop.tools s) j { a := Tri.a t, b := Tri.b t, c := co }))), SB.box [.int .i64 (Tri.a t), .int .i64 (Tri.b t), .int .i64 co]]) (.cons rfl (.cons rfl (.cons rfl (.cons rfl (.cons rfl (.cons rfl (.cons rfl (.nil rfl)))))))) rfl fun fr => ?_
        refine k_seq ?_
        refine k_draw [.lay, .plain, .read true, .quiet, .read true, .lay, .plain, .plain, .plain] (by kernel_rfl) (by kernel_rfl) (by kernel_rfl) ?_
        refine d_lay (es := []) rfl ty22 ze52 cl52 rfl rfl rfl rfl rfl rfl rfl rfl ?_
        refine d_plain (o_faddr rfl rfl fld27_0 (o_nil rfl)) ?_
        refine d_load rfl (o_load1 rfl rfl rfl sh22 rfl (o_nil rfl)) ?_
        refine d_appendQ rfl ap22_22 rfl rfl (by simp) (by simp) (trisU_one _) (by simp; omega) (by simp; omega) ?_
        refine d_load rfl (o_loadN rfl rfl rfl sh52 rfl (o_nil rfl)) ?_
        refine d_lay (es := [U.agg [.int .i64 (Tri.a q), .int .i64 (Tri.b q), .int .i64 (Tri.c q)]]) rfl ty22 ze52 cl52 rfl rfl rfl rfl rfl rfl rfl rfl ?_
        refine d_plain (o_appendO rfl ap22_22 rfl rfl (by simp) (by simp) (by simp [flatU, cellsU, oneU]) (by simp; omega) (o_nil rfl)) ?_
        refine d_plain (o_faddr rfl rfl fld27_0 (o_nil rfl)) ?_
        refine d_plain (o_store1 rfl rfl sh22 rfl rfl (o_nil rfl)) ?_
        refine d_nil ?_
        refine k_gen [(9, .int .i64 (a % (121 : Int) - (60 : Int))), (10, .int .i64 (b % (31 : Int))), (13, .int .i64 (Prod.snd A)), (14, .int .i64 0), (22, U.box 3 0)] ([SB.box [U.lst Kd.ro 3 (trisU (Shop.tools s)), .int .i64 (Shop.flo s), .int .i64 (Shop.fhi s), U.lst Kd.ro 3 (trisU (Shop.keys s))], SB.box [.int .i64 (Tri.a q), .int .i64 (Tri.b q), .int .i64 (Tri.c q)], SB.box [.int .i64 a, .int .i64 b], SB.box [U.lst Kd.own 3 (trisU (Shop.tools s) ++ [U.agg [.int .i64 (Tri.a q), .int .i64 (Tri.b q), .int .i64 (Tri.c q)]]), .int .i64 (Shop.flo s), .int .i64 (Shop.fhi s), U.lst Kd.ro 3 (trisU (Shop.keys s))], SB.froz (List.map dg (triF (List.set (Shop.tools s) j { a := Tri.a t, b := Tri.b t, c := co }))), SB.box [.int .i64 (Tri.a t), .int .i64 (Tri.b t), .int .i64 co]]) (.cons rfl (.cons rfl (.cons rfl (.cons rfl (.cons rfl (.nil rfl)))))) rfl fun fr => ?_
        refine k_seq (k_region ?_)
        refine o_loadN rfl rfl rfl sh27 rfl ?_
        refine o_move rfl ?_
        refine o_move rfl ?_
        refine o_call rfl (qf) (.lcons _ _ _ _ (.agg _ _ (.lcons _ _ _ _ hap (.lrefl _))) (.lrefl _)) ?_
        refine o_move rfl ?_
        refine o_extract rfl rfl rfl ?_
        refine o_extract rfl rfl rfl ?_
        refine o_extract rfl rfl rfl ?_
        refine o_assign rfl ?_
        refine o_assign rfl ?_
        refine o_nil ?_
        refine k_gen [(13, .int .i64 (Prod.snd A)), (14, .int .i64 0), (16, .int .i64 x2), (17, .int .i64 x3)] ([SB.box [U.lst Kd.ro 3 (trisU (Shop.tools s)), .int .i64 (Shop.flo s), .int .i64 (Shop.fhi s), U.lst Kd.ro 3 (trisU (Shop.keys s))], SB.box [.int .i64 (Tri.a q), .int .i64 (Tri.b q), .int .i64 (Tri.c q)], SB.box [.int .i64 a, .int .i64 b], SB.box [U.lst Kd.own 3 (trisU (Shop.tools s) ++ [U.agg [.int .i64 (Tri.a q), .int .i64 (Tri.b q), .int .i64 (Tri.c q)]]), .int .i64 (Shop.flo s), .int .i64 (Shop.fhi s), U.lst Kd.ro 3 (trisU (Shop.keys s))], SB.froz (List.map dg (triF (List.set (Shop.tools s) j { a := Tri.a t, b := Tri.b t, c := co }))), SB.box [.int .i64 (Tri.a t), .int .i64 (Tri.b t), .int .i64 co]]) (.cons rfl (.cons rfl (.cons rfl (.cons rfl (.nil rfl))))) rfl fun fr => ?_
        have hx' : x3 = 30 ∨ (x3 = 0 ∧ x2 ≤ A.2) := by
          rcases hx with h | h | h
          · exact .inl h
          · exact absurd h.1 hA
          · exact .inr ⟨h.1, h.2 hA⟩
        rcases hx' with rfl | ⟨rfl, hx2⟩
        · refine k_seq (k_region ?_)
          refine o_move rfl ?_
          refine o_eql rfl rfl rfl ?_
          refine o_move rfl ?_
          refine o_gS rfl rfl rfl rfl rfl ?_
          refine o_gS rfl rfl rfl rfl rfl ?_
          refine o_pickT rfl rfl rfl ?_
          refine o_move rfl ?_
          refine o_gS rfl rfl rfl rfl rfl ?_
          refine o_gS rfl rfl rfl rfl rfl ?_
          refine o_genA [(13, .int .i64 (Prod.snd A)), (16, .int .i64 x2), (17, .int .i64 30), (179, U.bool Bool.true), (181, U.tup [])] [] ([SB.box [U.lst Kd.ro 3 (trisU (Shop.tools s)), .int .i64 (Shop.flo s), .int .i64 (Shop.fhi s), U.lst Kd.ro 3 (trisU (Shop.keys s))], SB.box [.int .i64 (Tri.a q), .int .i64 (Tri.b q), .int .i64 (Tri.c q)], SB.box [.int .i64 a, .int .i64 b], SB.box [U.lst Kd.own 3 (trisU (Shop.tools s) ++ [U.agg [.int .i64 (Tri.a q), .int .i64 (Tri.b q), .int .i64 (Tri.c q)]]), .int .i64 (Shop.flo s), .int .i64 (Shop.fhi s), U.lst Kd.ro 3 (trisU (Shop.keys s))], SB.froz (List.map dg (triF (List.set (Shop.tools s) j { a := Tri.a t, b := Tri.b t, c := co }))), SB.box [.int .i64 (Tri.a t), .int .i64 (Tri.b t), .int .i64 co]]) (.cons rfl (.cons rfl (.cons rfl (.cons rfl (.cons rfl (.nil rfl)))))) rfl rfl fun fr => ?_
          refine o_gS rfl rfl rfl rfl rfl ?_
          refine o_dead rfl rfl rfl rfl ?_
          refine o_dead rfl rfl rfl rfl ?_
          refine o_dead rfl rfl rfl rfl ?_
          refine o_gS rfl rfl rfl rfl rfl ?_
          refine o_pickT rfl rfl rfl ?_
          refine o_move rfl ?_
          refine o_gD rfl rfl rfl rfl rfl ?_
          refine o_move rfl ?_
          refine o_gD rfl rfl rfl rfl rfl ?_
          refine o_eql rfl rfl rfl ?_
          refine o_genA [(17, .int .i64 30), (188, U.bool Bool.true), (190, U.bool (Decidable.decide ((30 : Int) = (0 : Int))))] [] ([SB.box [U.lst Kd.ro 3 (trisU (Shop.tools s)), .int .i64 (Shop.flo s), .int .i64 (Shop.fhi s), U.lst Kd.ro 3 (trisU (Shop.keys s))], SB.box [.int .i64 (Tri.a q), .int .i64 (Tri.b q), .int .i64 (Tri.c q)], SB.box [.int .i64 a, .int .i64 b], SB.box [U.lst Kd.own 3 (trisU (Shop.tools s) ++ [U.agg [.int .i64 (Tri.a q), .int .i64 (Tri.b q), .int .i64 (Tri.c q)]]), .int .i64 (Shop.flo s), .int .i64 (Shop.fhi s), U.lst Kd.ro 3 (trisU (Shop.keys s))], SB.froz (List.map dg (triF (List.set (Shop.tools s) j { a := Tri.a t, b := Tri.b t, c := co }))), SB.box [.int .i64 (Tri.a t), .int .i64 (Tri.b t), .int .i64 co]]) (.cons rfl (.cons rfl (.cons rfl (.nil rfl)))) rfl rfl fun fr => ?_
          refine o_gD rfl rfl rfl rfl rfl ?_
          refine o_genA [(17, .int .i64 30), (188, U.bool Bool.true), (190, U.bool (Decidable.decide ((30 : Int) = (0 : Int))))] [] ([SB.box [U.lst Kd.ro 3 (trisU (Shop.tools s)), .int .i64 (Shop.flo s), .int .i64 (Shop.fhi s), U.lst Kd.ro 3 (trisU (Shop.keys s))], SB.box [.int .i64 (Tri.a q), .int .i64 (Tri.b q), .int .i64 (Tri.c q)], SB.box [.int .i64 a, .int .i64 b], SB.box [U.lst Kd.own 3 (trisU (Shop.tools s) ++ [U.agg [.int .i64 (Tri.a q), .int .i64 (Tri.b q), .int .i64 (Tri.c q)]]), .int .i64 (Shop.flo s), .int .i64 (Shop.fhi s), U.lst Kd.ro 3 (trisU (Shop.keys s))], SB.froz (List.map dg (triF (List.set (Shop.tools s) j { a := Tri.a t, b := Tri.b t, c := co }))), SB.box [.int .i64 (Tri.a t), .int .i64 (Tri.b t), .int .i64 co]]) (.cons rfl (.cons rfl (.cons rfl (.nil rfl)))) rfl rfl fun fr => ?_
          refine o_move rfl ?_
          refine o_gD rfl rfl rfl rfl rfl ?_
          refine o_move rfl ?_
          refine o_gD rfl rfl rfl rfl rfl ?_
          refine o_eql rfl rfl rfl ?_
          refine o_gD rfl rfl rfl rfl rfl ?_
          refine o_pickF rfl rfl rfl ?_
          refine o_gD rfl rfl rfl rfl rfl ?_
          refine o_move rfl ?_
          refine o_gS rfl rfl rfl rfl rfl ?_
          refine o_gS rfl rfl rfl rfl rfl ?_
          refine o_gD rfl rfl rfl rfl rfl ?_
          refine o_pickT rfl rfl rfl ?_
          refine o_pickT rfl rfl rfl ?_
          refine o_genA [(199, U.bool Bool.true)] [] ([SB.box [U.lst Kd.ro 3 (trisU (Shop.tools s)), .int .i64 (Shop.flo s), .int .i64 (Shop.fhi s), U.lst Kd.ro 3 (trisU (Shop.keys s))], SB.box [.int .i64 (Tri.a q), .int .i64 (Tri.b q), .int .i64 (Tri.c q)], SB.box [.int .i64 a, .int .i64 b], SB.box [U.lst Kd.own 3 (trisU (Shop.tools s) ++ [U.agg [.int .i64 (Tri.a q), .int .i64 (Tri.b q), .int .i64 (Tri.c q)]]), .int .i64 (Shop.flo s), .int .i64 (Shop.fhi s), U.lst Kd.ro 3 (trisU (Shop.keys s))], SB.froz (List.map dg (triF (List.set (Shop.tools s) j { a := Tri.a t, b := Tri.b t, c := co }))), SB.box [.int .i64 (Tri.a t), .int .i64 (Tri.b t), .int .i64 co]]) (.cons rfl (.nil rfl)) rfl rfl fun fr => ?_
          refine o_move rfl ?_
          refine o_gD rfl rfl rfl rfl rfl ?_
          refine o_call rfl (r20) (.lrefl _) ?_
          refine o_pickT rfl rfl rfl ?_
          refine o_assign rfl ?_
          refine o_nil ?_
          refine k_ret ?_
          refine ⟨.inr rfl, _, .cons _ _ _ _ (.tmp 8) .nil, ?_⟩
          exact .refl _
        · have hx3 : decide (x2 ≤ A.2) = true := decide_eq_true hx2
          refine k_seq (k_region ?_)
          refine o_move rfl ?_
          refine o_eql rfl rfl rfl ?_
          refine o_move rfl ?_
          refine o_gD rfl rfl rfl rfl rfl ?_
          refine o_move rfl ?_
          refine o_gD rfl rfl rfl rfl rfl ?_
          refine o_neq rfl rfl rfl ?_
          refine o_pickF rfl rfl rfl ?_
          refine o_move rfl ?_
          refine o_gD rfl rfl rfl rfl rfl ?_
          refine o_move rfl ?_
          refine o_gD rfl rfl rfl rfl rfl ?_
          refine o_eql rfl rfl rfl ?_
          refine o_genA [(13, .int .i64 (Prod.snd A)), (16, .int .i64 x2), (17, .int .i64 0), (179, U.bool (Decidable.decide ((0 : Int) ≠ (0 : Int)))), (181, U.bool (Decidable.decide ((0 : Int) = (0 : Int))))] [] ([SB.box [U.lst Kd.ro 3 (trisU (Shop.tools s)), .int .i64 (Shop.flo s), .int .i64 (Shop.fhi s), U.lst Kd.ro 3 (trisU (Shop.keys s))], SB.box [.int .i64 (Tri.a q), .int .i64 (Tri.b q), .int .i64 (Tri.c q)], SB.box [.int .i64 a, .int .i64 b], SB.box [U.lst Kd.own 3 (trisU (Shop.tools s) ++ [U.agg [.int .i64 (Tri.a q), .int .i64 (Tri.b q), .int .i64 (Tri.c q)]]), .int .i64 (Shop.flo s), .int .i64 (Shop.fhi s), U.lst Kd.ro 3 (trisU (Shop.keys s))], SB.froz (List.map dg (triF (List.set (Shop.tools s) j { a := Tri.a t, b := Tri.b t, c := co }))), SB.box [.int .i64 (Tri.a t), .int .i64 (Tri.b t), .int .i64 co]]) (.cons rfl (.cons rfl (.cons rfl (.cons rfl (.cons rfl (.nil rfl)))))) rfl rfl fun fr => ?_
          refine o_gD rfl rfl rfl rfl rfl ?_
          refine o_genA [(13, .int .i64 (Prod.snd A)), (16, .int .i64 x2), (17, .int .i64 0), (179, U.bool (Decidable.decide ((0 : Int) ≠ (0 : Int)))), (181, U.bool (Decidable.decide ((0 : Int) = (0 : Int))))] [] ([SB.box [U.lst Kd.ro 3 (trisU (Shop.tools s)), .int .i64 (Shop.flo s), .int .i64 (Shop.fhi s), U.lst Kd.ro 3 (trisU (Shop.keys s))], SB.box [.int .i64 (Tri.a q), .int .i64 (Tri.b q), .int .i64 (Tri.c q)], SB.box [.int .i64 a, .int .i64 b], SB.box [U.lst Kd.own 3 (trisU (Shop.tools s) ++ [U.agg [.int .i64 (Tri.a q), .int .i64 (Tri.b q), .int .i64 (Tri.c q)]]), .int .i64 (Shop.flo s), .int .i64 (Shop.fhi s), U.lst Kd.ro 3 (trisU (Shop.keys s))], SB.froz (List.map dg (triF (List.set (Shop.tools s) j { a := Tri.a t, b := Tri.b t, c := co }))), SB.box [.int .i64 (Tri.a t), .int .i64 (Tri.b t), .int .i64 co]]) (.cons rfl (.cons rfl (.cons rfl (.cons rfl (.cons rfl (.nil rfl)))))) rfl rfl fun fr => ?_
          refine o_move rfl ?_
          refine o_gD rfl rfl rfl rfl rfl ?_
          refine o_move rfl ?_
          refine o_gD rfl rfl rfl rfl rfl ?_
          refine o_move rfl ?_
          refine o_gD rfl rfl rfl rfl rfl ?_
          refine o_leq rfl rfl rfl ?_
          refine o_gD rfl rfl rfl rfl rfl ?_
          refine o_pickT rfl rfl rfl ?_
          refine o_pickF rfl rfl rfl ?_
          refine o_move rfl ?_
          refine o_gD rfl rfl rfl rfl (by assumption) ?_
          refine o_move rfl ?_
          refine o_gD rfl rfl rfl rfl (by assumption) ?_
          refine o_eql rfl rfl rfl ?_
          refine o_genA [(17, .int .i64 0), (188, U.bool (Decidable.decide (x2 ≤ Prod.snd A))), (190, U.bool (Decidable.decide ((0 : Int) = (0 : Int))))] [] ([SB.box [U.lst Kd.ro 3 (trisU (Shop.tools s)), .int .i64 (Shop.flo s), .int .i64 (Shop.fhi s), U.lst Kd.ro 3 (trisU (Shop.keys s))], SB.box [.int .i64 (Tri.a q), .int .i64 (Tri.b q), .int .i64 (Tri.c q)], SB.box [.int .i64 a, .int .i64 b], SB.box [U.lst Kd.own 3 (trisU (Shop.tools s) ++ [U.agg [.int .i64 (Tri.a q), .int .i64 (Tri.b q), .int .i64 (Tri.c q)]]), .int .i64 (Shop.flo s), .int .i64 (Shop.fhi s), U.lst Kd.ro 3 (trisU (Shop.keys s))], SB.froz (List.map dg (triF (List.set (Shop.tools s) j { a := Tri.a t, b := Tri.b t, c := co }))), SB.box [.int .i64 (Tri.a t), .int .i64 (Tri.b t), .int .i64 co]]) (.cons rfl (.cons rfl (.cons rfl (.nil rfl)))) rfl rfl fun fr => ?_
          refine o_gD rfl rfl rfl rfl (by assumption) ?_
          refine o_genA [(17, .int .i64 0), (188, U.bool (Decidable.decide (x2 ≤ Prod.snd A))), (190, U.bool (Decidable.decide ((0 : Int) = (0 : Int))))] [] ([SB.box [U.lst Kd.ro 3 (trisU (Shop.tools s)), .int .i64 (Shop.flo s), .int .i64 (Shop.fhi s), U.lst Kd.ro 3 (trisU (Shop.keys s))], SB.box [.int .i64 (Tri.a q), .int .i64 (Tri.b q), .int .i64 (Tri.c q)], SB.box [.int .i64 a, .int .i64 b], SB.box [U.lst Kd.own 3 (trisU (Shop.tools s) ++ [U.agg [.int .i64 (Tri.a q), .int .i64 (Tri.b q), .int .i64 (Tri.c q)]]), .int .i64 (Shop.flo s), .int .i64 (Shop.fhi s), U.lst Kd.ro 3 (trisU (Shop.keys s))], SB.froz (List.map dg (triF (List.set (Shop.tools s) j { a := Tri.a t, b := Tri.b t, c := co }))), SB.box [.int .i64 (Tri.a t), .int .i64 (Tri.b t), .int .i64 co]]) (.cons rfl (.cons rfl (.cons rfl (.nil rfl)))) rfl rfl fun fr => ?_
          refine o_move rfl ?_
          refine o_gS rfl rfl rfl rfl rfl ?_
          refine o_gS rfl rfl rfl rfl rfl ?_
          refine o_gD rfl rfl rfl rfl (by assumption) ?_
          refine o_pickT rfl rfl rfl ?_
          refine o_gD rfl rfl rfl rfl (by assumption) ?_
          refine o_move rfl ?_
          refine o_gS rfl rfl rfl rfl rfl ?_
          refine o_gS rfl rfl rfl rfl rfl ?_
          refine o_gD rfl rfl rfl rfl (by assumption) ?_
          refine o_pickT rfl rfl rfl ?_
          refine o_pickT rfl rfl (by assumption) ?_
          refine o_genA [(199, U.bool Bool.true)] [] ([SB.box [U.lst Kd.ro 3 (trisU (Shop.tools s)), .int .i64 (Shop.flo s), .int .i64 (Shop.fhi s), U.lst Kd.ro 3 (trisU (Shop.keys s))], SB.box [.int .i64 (Tri.a q), .int .i64 (Tri.b q), .int .i64 (Tri.c q)], SB.box [.int .i64 a, .int .i64 b], SB.box [U.lst Kd.own 3 (trisU (Shop.tools s) ++ [U.agg [.int .i64 (Tri.a q), .int .i64 (Tri.b q), .int .i64 (Tri.c q)]]), .int .i64 (Shop.flo s), .int .i64 (Shop.fhi s), U.lst Kd.ro 3 (trisU (Shop.keys s))], SB.froz (List.map dg (triF (List.set (Shop.tools s) j { a := Tri.a t, b := Tri.b t, c := co }))), SB.box [.int .i64 (Tri.a t), .int .i64 (Tri.b t), .int .i64 co]]) (.cons rfl (.nil rfl)) rfl rfl fun fr => ?_
          refine o_move rfl ?_
          refine o_gD rfl rfl rfl rfl rfl ?_
          refine o_call rfl (r20) (.lrefl _) ?_
          refine o_pickT rfl rfl rfl ?_
          refine o_assign rfl ?_
          refine o_nil ?_
          refine k_ret ?_
          refine ⟨.inr rfl, _, .cons _ _ _ _ (.tmp 8) .nil, ?_⟩
          exact .refl _
  · refine k_seq (k_region ?_)
    refine o_box rfl rfl ?_
    refine o_box rfl rfl ?_
    refine o_box rfl rfl ?_
    refine o_assign rfl ?_
    refine o_nil ?_
    refine k_gen [(3, .int .i64 n), (4, U.box 0 0), (5, U.box 1 0), (6, U.box 2 0)] ([SB.box [U.lst Kd.ro 3 (trisU (Shop.tools s)), .int .i64 (Shop.flo s), .int .i64 (Shop.fhi s), U.lst Kd.ro 3 (trisU (Shop.keys s))], SB.box [.int .i64 (Tri.a q), .int .i64 (Tri.b q), .int .i64 (Tri.c q)], SB.box [.int .i64 a, .int .i64 b]]) (.cons rfl (.cons rfl (.cons rfl (.cons rfl (.nil rfl))))) rfl fun fr => ?_
    refine k_seq ?_
    refine k_seq (k_region ?_)
    refine o_loadN rfl rfl rfl sh27 rfl ?_
    refine o_call rfl (ret32n hi hv) (.lrefl _) ?_
    refine o_not rfl rfl ?_
    refine o_nil ?_
    refine k_cT rfl rfl ?_
    refine k_seq (k_region ?_)
    refine o_call rfl (r20) (.lrefl _) ?_
    refine o_assign rfl ?_
    refine o_nil ?_
    refine k_ret ?_
    refine ⟨.inr rfl, _, .cons _ _ _ _ (.tmp 8) .nil, ?_⟩
    exact .refl _
theorem ret8_all {is : FuncId → Bool} {orc : Known} (hi : Off is) (r20 : RetP Try.prog is orc 20 [] (.bool true)) : ∀ us, ShpAs Try.prog [27, 52, 28, 3] us → RetP Try.prog is orc 8 us (.bool true) := by
  intro us h
  cases h with
  | cons _ _ u us h1 h => cases h with
  | cons _ _ v us h2 h => cases h with
  | cons _ _ x us h3 h => cases h with
  | cons _ _ y us h4 h =>
  cases h
  obtain ⟨fs, hu⟩ := und_struct (P := Try.prog) (t := 27) 3 (by kernel_rfl)
  obtain ⟨gs, hv⟩ := und_struct (P := Try.prog) (t := 52) 2 (by kernel_rfl)
  unfold ShpA at h1 h2 h3 h4
  rw [hu] at h1
  rw [hv] at h2
  rw [u28] at h3
  rw [u3] at h4
  obtain ⟨cs, rfl, h1⟩ := h1
  obtain ⟨ds, rfl, h2⟩ := h2
  obtain ⟨es, rfl, h3⟩ := h3
  obtain ⟨s, rfl⟩ := shp_shop h1
  obtain ⟨q, rfl⟩ := shp_tri f52 h2
  obtain ⟨a, b, rfl⟩ := shp_two h3
  obtain ⟨n, hn⟩ := shp_int h4
  cases hn
  exact ret8 hi s q a b n r20
end Go.Proofs.Ytdahbimllmapkaa.raspMore
