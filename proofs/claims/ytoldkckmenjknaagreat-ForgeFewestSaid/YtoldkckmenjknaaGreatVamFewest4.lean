/- forge's functions, the specification's and the law's, by the logic of trees: what each gives back for all that it may be given. -/
import Derived.Test.YtoldkckmenjknaaGreatVamFewest3
namespace Go.Proofs.YtoldkckmenjknaaGreat.forgeFewest
open Vam
set_option linter.unusedVariables false
set_option linter.unusedSimpArgs false
set_option linter.constructorNameAsVariable false
variable {is : FuncId → Bool} {orc : Known}
noncomputable def b56 : Code := (Tryz.f56.body).getD .skip
theorem body56 : bodyOf Tryz.prog 56 = some (8, b56, [.tmp 6]) := by kernel_rfl
theorem pure56 : pureFn Tryz.prog 56 = false := by kernel_rfl
theorem cl113 : Program.cellsOf Tryz.prog 113 = 2 := by kernel_rfl
theorem fld113_1 : fieldOf Tryz.prog 113 1 = some (1, 111) := by kernel_rfl
theorem sh111 : shOf Tryz.prog 111 = .one := by kernel_rfl
theorem sh113 : shOf Tryz.prog 113 = .many 2 := by kernel_rfl
theorem ty114 : tyOf Tryz.prog 114 = .array 2 113 := by kernel_rfl
noncomputable def b77 : Code := (Tryz.f77.body).getD .skip
theorem body77 : bodyOf Tryz.prog 77 = some (37, b77, []) := by kernel_rfl
theorem pure77 : pureFn Tryz.prog 77 = false := by kernel_rfl
def sd (j : Nat) : Bool := match j with | 0 => false | _ => true
theorem sides_at {j : Nat} (hj : j < 2) : (([.fn 92 [] [], .fn 93 [] [], .fn 94 [] [], .fn 95 [] []] : List U).drop (j * 2)).take 2 = [enU (sd j), keU (sd j)] := by
  have e : j = 0 ∨ j = 1 := by omega
  rcases e with rfl | rfl <;> rfl
def keptI (b : Bk) (many : Int) (s : Bool) (m : Qd) : Bool := keepsI s (tinI b s m) (many * endI s b.tlo b.thi)
def rightI (b : Bk) (many : Int) (m : Qd) : Bool := keptI b many false m && keptI b many true m
structure SeenR (b : Bk) (n0 : Nat) (L : Qd) (many : Int) (NO A li mi ki : Nat) (lpO : Lp) (stopO : Qd → Bool) (XO : List Qd → List SB) (DO : List SB) : Prop where
  len : ∀ l, (XO l).length = NO
  lenD : DO.length = NO
  bd : ∀ l, ∀ x ∈ XO l, BdS NO x
  bdD : ∀ x ∈ DO, BdS NO x
  bl : ∀ l, (XO l)[A]? = some (.loop .ready lpO)
  bL : ∀ l, (XO l)[li]? = some (.box L.cs)
  bm : ∀ l, (XO l)[mi]? = some (.box [.int .i64 many])
  bk : ∀ l, (XO l)[ki]? = some (.box (bkN b n0))
  own : ∀ i, NoOwn (lpO.fr i)
  ps : ∃ p, lpO.ps = [p] ∧ Nat.blt p 1024 = true
  run : ∀ (is : FuncId → Bool) (orc : Known), Off is → ∀ l q e, QOk q → WpY Tryz.prog is orc A lpO [q.u] (XO l ++ e) fun u st' =>
    (stopO q = false ∧ u = .bool true ∧ ∃ e', Ext e' ∧ st' = XO (l ++ [q]) ++ (e ++ e')) ∨ (stopO q = true ∧ u = .bool false ∧ ∃ e', Ext e' ∧ st' = DO ++ (e ++ e'))
noncomputable def rg70 : Code × Code := match b77 with
  | .seq _ (.scope (.seq _ (.seq _ (.block _ (.rangeFunc _ _ a b))))) => (a, b)
  | _ => (.skip, .skip)
noncomputable def lp70 (NO mi ki : Nat) : Lp := ⟨fun i => dg (lookU [(2, .box mi 0), (3, .box ki 0), (4, .box NO 0), (10, .fn 90 [] [.box (NO + 1) 0, .box (NO + 2) 0])] i .junk), [11], rg70.1, rg70.2⟩
abbrev Z3 (L : Qd) (many : Int) (A : Nat) : List SB := [.box [.yld A], .box L.cs, .box [.int .i64 many]]
noncomputable def inn (L : Qd) (many : Int) (NO A mi ki : Nat) (P : List SB) (q : Lq) (R : List SB) : List SB := P ++ (Z3 L many A ++ (tl83 (NO + 3) (NO + 1) q (lp70 NO mi ki) ++ R))
section inns
variable {L : Qd} {many : Int} {NO A mi ki : Nat} {P R : List SB} {q q' : Lq}
theorem inn_eq : ((P ++ Z3 L many A) ++ tl83 (NO + 3) (NO + 1) q (lp70 NO mi ki)) ++ R = inn L many NO A mi ki P q R := by
  unfold inn; rw [List.append_assoc, List.append_assoc]
theorem inn_get {i : Nat} {x : SB} (h : P[i]? = some x) : (inn L many NO A mi ki P q R)[i]? = some x := at_pre h
theorem inn_snoc (S : List SB) : inn L many NO A mi ki P q R ++ S = inn L many NO A mi ki P q (R ++ S) := by
  unfold inn; simp [List.append_assoc]
theorem inn_y (hP : P.length = NO) : (inn L many NO A mi ki P q R)[NO]? = some (.box [.yld A]) := by
  unfold inn
  rw [List.getElem?_append_right (by omega), hP, Nat.sub_self]; rfl
theorem inn_loop (hP : P.length = NO) : (inn L many NO A mi ki P q R)[NO + 3]? = some (.loop q (lp70 NO mi ki)) := by
  unfold inn
  rw [List.getElem?_append_right (by omega), hP, Nat.add_sub_cancel_left]; rfl
theorem inn_set (hP : P.length = NO) : (inn L many NO A mi ki P q R).set (NO + 3) (.loop q' (lp70 NO mi ki)) = inn L many NO A mi ki P q' R := by
  unfold inn
  rw [List.set_append_right _ _ (by omega), hP, Nat.add_sub_cancel_left]; rfl
theorem inn_len (hP : P.length = NO) : (inn L many NO A mi ki P q R).length = NO + 6 + R.length := by
  unfold inn; simp [hP]; omega
theorem inn_at (hP : P.length = NO) (S : List SB) (x : SB) : (inn L many NO A mi ki P q (R ++ (x :: S)))[NO + 6 + R.length]? = some x := by
  rw [← inn_snoc, List.getElem?_append_right (by rw [inn_len hP]; omega), inn_len hP, Nat.sub_self]; rfl
end inns
variable {b : Bk} {n0 : Nat} {L : Qd} {many : Int} {NO A li mi ki : Nat} {lpO : Lp} {stopO : Qd → Bool} {XO : List Qd → List SB} {DO : List SB}
set_option maxHeartbeats 16000000 in
theorem yield70 (hb : Ok b) (hmany : 0 ≤ many ∧ many ≤ 24) (h : SeenR b n0 L many NO A li mi ki lpO stopO XO DO) (hi : Off is) (l : List Qd) (q : Qd) (e : List SB) (hq : QOk q) (he : Ext e) :
    WpY Tryz.prog is orc (NO + 3) (lp70 NO mi ki) [q.u] (inn L many NO A mi ki (XO (l.filter (rightI b many))) .ready e) fun u st' =>
      ((rightI b many q && stopO q) = false ∧ u = .bool true ∧ ∃ e', Ext e' ∧ st' = inn L many NO A mi ki (XO ((l ++ [q]).filter (rightI b many))) .ready (e ++ e')) ∨
      ((rightI b many q && stopO q) = true ∧ u = .bool false ∧ ∃ e', Ext e' ∧ st' = inn L many NO A mi ki DO (.done .ret) (e ++ e')) := by
  show Wp _ _ _ rg70.1 _ _
  rw [List.filter_append]
  generalize l.filter (rightI b many) = F
  have hP := h.len F
  show Wp _ _ _ _ ⟨_, [], inn L many NO A mi ki (XO F) .ready e⟩ _
  have hl5 : (inn L many NO A mi ki (XO F) .ready e).length = NO + 6 + e.length := inn_len hP
  refine k_region ?_
  refine o_alloc rfl ze57 ?_
  refine o_storeN rfl (at_new _ _) sh57 rfl rfl rfl rfl rfl ?_
  refine o_nil ?_
  have hst0 : ∀ x y : SB, ((inn L many NO A mi ki (XO F) .ready e) ++ [x]).set (inn L many NO A mi ki (XO F) .ready e).length y = inn L many NO A mi ki (XO F) .ready (e ++ [y]) := fun x y => by rw [set_end, inn_snoc]
  refine ⟨rfl, ?_, ?_⟩
  · show (((inn L many NO A mi ki (XO F) .ready e) ++ [_]).set (inn L many NO A mi ki (XO F) .ready e).length (SB.box _))[NO + 3]? = _
    rw [hst0]; exact inn_loop hP
  refine k_gen [(2, .box mi 0), (3, .box ki 0), (4, .box NO 0), (5, .box (NO + 6 + e.length) 0)] (inn L many NO A mi ki (XO F) .busy (e ++ [.box q.cs])) (.cons rfl (.cons rfl (.cons rfl (.cons (by show U.box (inn L many NO A mi ki (XO F) .ready e).length 0 = _; rw [hl5]) (.nil rfl))))) (by
    show (((inn L many NO A mi ki (XO F) .ready e) ++ [_]).set (inn L many NO A mi ki (XO F) .ready e).length (SB.box q.cs)).set (NO + 3) (.loop .busy (lp70 NO mi ki)) = _
    rw [hst0, inn_set hP]) fun fr => ?_
  show Wp _ _ _ rg70.2 _ _
  refine k_block ?_
  refine k_seq ?_
  refine k_seq ?_
  refine k_region ?_
  refine o_call rfl (ret79 hi) (.lrefl _) ?_
  refine o_move rfl ?_
  refine o_nil ?_
  refine k_block ?_
  refine k_loop (fun k st => ∃ (j : Nat) (e1 : List SB), k + j = 2 ∧ Ext e1 ∧ (1 ≤ j → keptI b many false q = true) ∧ (2 ≤ j → keptI b many true q = true) ∧ st.st = inn L many NO A mi ki (XO F) .busy (e ++ (SB.box q.cs :: e1)) ∧ Holds st [(2, .box mi 0), (3, .box ki 0), (4, .box NO 0), (5, .box (NO + 6 + e.length) 0), (12, sidesU), (13, .int .i64 j)]) (fun k st hI => ?_) 2 _ ?_
  · obtain ⟨j, e1, hkj, he1, hk1, hk2, hst, hs⟩ := hI
    refine k_gen _ _ hs hst fun fr => ?_
    refine k_seq ?_
    refine k_region ?_
    refine o_lss rfl rfl rfl ?_
    refine o_nil ?_
    refine k_seq ?_
    refine k_cond rfl (fun h2 => ?_) (fun h2 => ?_)
    · have hj : j < 2 := by have := of_decide_eq_true h2; omega
      refine k_skip ?_
      refine k_seq ?_
      refine k_block ?_
      refine k_seq ?_
      refine k_region ?_
      refine o_idxN (i := j) rfl ty114 rfl rfl hj cl113 sh113 (by show j * 2 + 2 ≤ 4; omega) ?_
      refine o_alloc rfl ze113 ?_
      refine o_storeN rfl (at_new _ _) sh113 rfl (by rw [sides_at hj]; rfl) rfl rfl (by rw [sides_at hj]; rfl) ?_
      refine o_nil ?_
      have hl7 : (inn L many NO A mi ki (XO F) .busy (e ++ (SB.box q.cs :: e1))).length = NO + 6 + (e ++ (SB.box q.cs :: e1)).length := inn_len hP
      refine k_gen [(2, .box mi 0), (3, .box ki 0), (4, .box NO 0), (5, .box (NO + 6 + e.length) 0), (7, .box (NO + 6 + (e ++ (SB.box q.cs :: e1)).length) 0), (12, sidesU), (13, .int .i64 j)] (inn L many NO A mi ki (XO F) .busy ((e ++ (SB.box q.cs :: e1)) ++ [.box [enU (sd j), keU (sd j)]])) (.cons rfl (.cons rfl (.cons rfl (.cons rfl (.cons (by show U.box (inn L many NO A mi ki (XO F) .busy (e ++ (SB.box q.cs :: e1))).length 0 = _; rw [hl7]) (.cons rfl (.cons rfl (.nil rfl)))))))) (by
        show ((inn L many NO A mi ki (XO F) .busy (e ++ (SB.box q.cs :: e1))) ++ [_]).set (inn L many NO A mi ki (XO F) .busy (e ++ (SB.box q.cs :: e1))).length (SB.box _) = _
        rw [set_end, inn_snoc, sides_at hj]; rfl) fun fr => ?_
      have hb7 : (inn L many NO A mi ki (XO F) .busy ((e ++ (SB.box q.cs :: e1)) ++ [.box [enU (sd j), keU (sd j)]]))[NO + 6 + (e ++ (SB.box q.cs :: e1)).length]? = some (.box [enU (sd j), keU (sd j)]) := inn_at hP [] _
      have hb5 : (inn L many NO A mi ki (XO F) .busy ((e ++ (SB.box q.cs :: e1)) ++ [.box [enU (sd j), keU (sd j)]]))[NO + 6 + e.length]? = some (.box q.cs) := by
        rw [List.append_assoc]; exact inn_at hP _ _
      have hb2 : (inn L many NO A mi ki (XO F) .busy ((e ++ (SB.box q.cs :: e1)) ++ [.box [enU (sd j), keU (sd j)]]))[mi]? = some (.box [.int .i64 many]) := inn_get (h.bm F)
      have hb3 : (inn L many NO A mi ki (XO F) .busy ((e ++ (SB.box q.cs :: e1)) ++ [.box [enU (sd j), keU (sd j)]]))[ki]? = some (.box (bkN b n0)) := inn_get (h.bk F)
      have hpk : 0 ≤ endI (sd j) b.tlo b.thi ∧ endI (sd j) b.tlo b.thi ≤ 1000 := by
        have := hb.tin
        cases sd j
        · show 0 ≤ b.tlo ∧ b.tlo ≤ 1000; omega
        · show 0 ≤ b.thi ∧ b.thi ≤ 1000; omega
      have hmul := mul_qb hmany hpk
      refine k_seq ?_
      refine k_draw [.plain, .read true, .read true, .read true, .read true, .quiet, .read true, .plain, .read true, .plain, .plain, .read true, .quiet, .plain, .plain, .plain] (by kernel_rfl) (by kernel_rfl) (by kernel_rfl) ?_
      refine d_plain (o_faddr rfl rfl fld113_1 (o_nil rfl)) ?_
      refine d_load rfl (o_load1 rfl rfl (by exact hb7) sh111 rfl (o_nil rfl)) ?_
      refine d_load rfl (o_loadN rfl rfl (by exact hb3) sh60 rfl (o_nil rfl)) ?_
      refine d_load rfl (o_loadN rfl rfl (by exact hb5) sh57 rfl (o_nil rfl)) ?_
      refine d_load rfl (o_loadN rfl rfl (by exact hb7) sh113 rfl (o_nil rfl)) ?_
      refine d_callQ rfl (ret80 hi hb n0 hq (sd j)) (.lrefl _) ?_
      refine d_load rfl (o_load1 rfl rfl (by exact hb2) sh3 rfl (o_nil rfl)) ?_
      refine d_plain (o_faddr rfl rfl fld113_0 (o_nil rfl)) ?_
      refine d_load rfl (o_load1 rfl rfl (by exact hb7) sh110 rfl (o_nil rfl)) ?_
      refine d_plain (o_faddr rfl rfl fld60_0 (o_nil rfl)) ?_
      refine d_plain (o_faddr rfl rfl fld28_1 (o_nil rfl)) ?_
      refine d_load rfl (o_loadN rfl rfl (by exact hb3) sh24 rfl (o_nil rfl)) ?_
      refine d_callVQ rfl rfl (retEn hi (sd j) b.tlo b.thi) (.lrefl _) ?_
      refine d_plain (o_mul (a := many) (b := endI (sd j) b.tlo b.thi) rfl rfl rfl (by unfold I64; omega) (o_nil rfl)) ?_
      refine d_plain (o_callVR rfl rfl (retKe hi (sd j) (tinI b (sd j) q) (many * endI (sd j) b.tlo b.thi)) (.lrefl _) (o_nil rfl)) ?_
      refine d_plain (o_not rfl rfl (o_nil rfl)) ?_
      refine d_nil ?_
      refine k_cond rfl (fun h3 => ?_) (fun h3 => ?_)
      · have hno : keptI b many (sd j) q = false := by
          have h3 : (!(keptI b many (sd j) q)) = true := h3
          simpa using h3
        have hr : rightI b many q = false := by
          unfold rightI
          have ej : j = 0 ∨ j = 1 := by omega
          rcases ej with rfl | rfl
          · rw [show keptI b many false q = false from hno]; rfl
          · rw [show keptI b many true q = false from hno]; simp
        refine k_exit ?_
        refine ⟨?_, .inl ⟨by rw [hr]; rfl, rfl, .box q.cs :: (e1 ++ [.box [enU (sd j), keU (sd j)]]), ?_, ?_⟩⟩
        · show (inn L many NO A mi ki (XO F) .busy _)[NO + 3]? = _
          exact inn_loop hP
        · exact Ext.app (Ext.snoc (l := []) .nil (nb_qd q)) (Ext.snoc he1 fun c hc => by
            simp only [List.mem_cons, List.not_mem_nil, or_false] at hc
            rcases hc with rfl | rfl <;> exact nb_fn0 _)
        · show (inn L many NO A mi ki (XO F) .busy ((e ++ (SB.box q.cs :: e1)) ++ [.box [enU (sd j), keU (sd j)]])).set (NO + 3) (.loop .ready (lp70 NO mi ki)) = _
          rw [inn_set hP, show [q].filter (rightI b many) = [] by simp [hr], List.append_nil, List.append_assoc]; rfl
      · have hyes : keptI b many (sd j) q = true := by
          have h3 : (!(keptI b many (sd j) q)) = false := h3
          simpa using h3
        refine k_skip ?_
        refine k_region ?_
        refine o_add rfl rfl rfl (by unfold I64; omega) ?_
        refine o_move rfl ?_
        refine o_nil ?_
        refine ⟨k - 1, by omega, j + 1, e1 ++ [.box [enU (sd j), keU (sd j)]], by omega, Ext.snoc he1 fun c hc => by
            simp only [List.mem_cons, List.not_mem_nil, or_false] at hc
            rcases hc with rfl | rfl <;> exact nb_fn0 _, fun _ => ?_, fun h => ?_, ?_, .cons rfl (.cons rfl (.cons rfl (.cons rfl (.cons rfl (.cons rfl (.nil rfl))))))⟩
        · by_cases ej : j = 0
          · subst ej; exact hyes
          · exact hk1 (by omega)
        · have ej : j = 1 := by omega
          subst ej; exact hyes
        · show inn L many NO A mi ki (XO F) .busy ((e ++ (SB.box q.cs :: e1)) ++ [.box [enU (sd j), keU (sd j)]]) = _
          rw [List.append_assoc]; rfl
    · have hj : j = 2 := by have := of_decide_eq_false h2; omega
      subst hj
      have hr : rightI b many q = true := by unfold rightI; rw [hk1 (by omega), hk2 (by omega)]; rfl
      have hf : [q].filter (rightI b many) = [q] := by simp [hr]
      rw [hf, hr]
      refine k_exit ?_
      refine k_gen [(4, .box NO 0), (5, .box (NO + 6 + e.length) 0)] (XO F ++ (Z3 L many A ++ (tl83 (NO + 3) (NO + 1) .busy (lp70 NO mi ki) ++ (e ++ (SB.box q.cs :: e1))))) (.cons rfl (.cons rfl (.nil rfl))) rfl fun fr => ?_
      have hb5 : (XO F ++ (Z3 L many A ++ (tl83 (NO + 3) (NO + 1) .busy (lp70 NO mi ki) ++ (e ++ (SB.box q.cs :: e1)))))[NO + 6 + e.length]? = some (.box q.cs) := inn_at (q := .busy) (mi := mi) (ki := ki) hP _ _
      refine k_seq ?_
      refine k_region ?_
      refine o_load1 rfl rfl (by exact inn_y (q := .busy) (mi := mi) (ki := ki) hP) sh108 rfl ?_
      refine o_loadN rfl rfl (by exact hb5) sh57 rfl ?_
      refine o_yield (a := A) rfl rfl (at_pre (h.bl F)) h.own (by obtain ⟨p, hp, hp2⟩ := h.ps; rw [hp]; simp [hp2]) (by obtain ⟨p, hp, hp2⟩ := h.ps; rw [hp]; rfl) (.lrefl _) (h.run is orc hi F q _ hq) (fun u st1 hM => ?_)
      rcases hM with ⟨hso, rfl, e', he', rfl⟩ | ⟨hso, rfl, e', he', rfl⟩
      · have hP2 := h.len (F ++ [q])
        have hE : ∀ P : List SB, P ++ ((Z3 L many A ++ (tl83 (NO + 3) (NO + 1) .busy (lp70 NO mi ki) ++ (e ++ (SB.box q.cs :: e1)))) ++ e') = inn L many NO A mi ki P .busy (e ++ (.box q.cs :: (e1 ++ e'))) := fun P => by
          unfold inn; simp [List.append_assoc]
        refine o_not rfl rfl ?_
        refine o_nil ?_
        refine k_cond rfl (fun h3 => by cases h3) (fun h3 => ?_)
        refine k_skip ?_
        refine ⟨?_, .inl ⟨by rw [hso]; rfl, rfl, .box q.cs :: (e1 ++ e'), Ext.app (Ext.snoc (l := []) .nil (nb_qd q)) (he1.app he'), ?_⟩⟩
        · show (XO (F ++ [q]) ++ _)[NO + 3]? = _
          rw [hE]; exact inn_loop hP2
        · show (XO (F ++ [q]) ++ _).set (NO + 3) _ = _
          rw [hE, inn_set hP2]
      · have hP2 := h.lenD
        have hE : ∀ P : List SB, P ++ ((Z3 L many A ++ (tl83 (NO + 3) (NO + 1) .busy (lp70 NO mi ki) ++ (e ++ (SB.box q.cs :: e1)))) ++ e') = inn L many NO A mi ki P .busy (e ++ (.box q.cs :: (e1 ++ e'))) := fun P => by
          unfold inn; simp [List.append_assoc]
        refine o_not rfl rfl ?_
        refine o_nil ?_
        refine k_cond rfl (fun h3 => ?_) (fun h3 => by cases h3)
        refine k_ret ?_
        refine ⟨?_, .inr ⟨by rw [hso]; rfl, rfl, .box q.cs :: (e1 ++ e'), Ext.app (Ext.snoc (l := []) .nil (nb_qd q)) (he1.app he'), ?_⟩⟩
        · show (DO ++ _)[NO + 3]? = _
          rw [hE]; exact inn_loop hP2
        · show (DO ++ _).set (NO + 3) _ = _
          rw [hE, inn_set hP2]; rfl
  · exact ⟨0, [], rfl, .nil, fun h => by omega, fun h => by omega, rfl, .cons rfl (.cons rfl (.cons rfl (.cons rfl (.cons rfl (.cons rfl (.nil rfl))))))⟩
end Go.Proofs.YtoldkckmenjknaaGreat.forgeFewest
