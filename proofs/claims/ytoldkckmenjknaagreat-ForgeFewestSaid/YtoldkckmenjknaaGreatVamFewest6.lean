/- forge's functions, the specification's and the law's, by the logic of trees: what each gives back for all that it may be given. -/
import Derived.Test.YtoldkckmenjknaaGreatVamFewest5
namespace Go.Proofs.YtoldkckmenjknaaGreat.forgeFewest
open Vam
set_option linter.unusedVariables false
set_option linter.unusedSimpArgs false
set_option linter.constructorNameAsVariable false
variable {is : FuncId → Bool} {orc : Known}
theorem sh4 : shOf Tryz.prog 4 = .one := by kernel_rfl
theorem ze4 : zeroL Tryz.prog 4 = some ((.cons (.bool false) .nil) : V) := by kernel_rfl
noncomputable def b30 : Code := (Tryz.f30.body).getD .skip
theorem body30 : bodyOf Tryz.prog 30 = some (27, b30, [.cell 4 4]) := by kernel_rfl
theorem pure30 : pureFn Tryz.prog 30 = false := by kernel_rfl
noncomputable def b7 : Code := (Tryz.f7.body).getD .skip
theorem body7 : bodyOf Tryz.prog 7 = some (19, b7, [.tmp 4, .tmp 5]) := by kernel_rfl
theorem pure7 : pureFn Tryz.prog 7 = true := by kernel_rfl
theorem d_callW {all : List Oper} {l : List (Oper × M0)} {P : Program} {s : St} {d : Option Nat} {g : FuncId} {xs : Array Operand} {ts : Array TypeId} {t : TypeId} {p : String} {e : Array Edge} {args : List U} {u0 : U} {st0 : List SB} {Q : St → Prop} (hd : okDst 1024 d = true) (hw : WpC P is orc g args s.st fun u st' => u = u0 ∧ st' = st0)
    (hle : UW (.l (evalUs s xs.toList)) (.l args)) (k : WpD P is orc all l ((⟨s.fr, [], st0⟩ : St).dst d u0) Q) : WpD P is orc all ((⟨d, .call ⟨.value (.func g), xs, ts⟩, t, p, e, none⟩, .plain) :: l) s Q :=
  d_plain (o_callW hd hw hle fun u st' hM => by obtain ⟨rfl, rfl⟩ := hM; exact o_nil rfl) k
def stoQ (b : Bk) : Qd := ⟨stk b b.lots.length 0, stk b b.lots.length 1, stk b b.lots.length 2, stk b b.lots.length 3⟩
def askQ (l : List Int) : Qd := ⟨(l[0]?).getD 0, (l[1]?).getD 0, (l[2]?).getD 0, (l[3]?).getD 0⟩
theorem ask_cs {l : List Int} (h : l.length ≤ 4) : zQ.cs.take 0 ++ (flatU (intsU l)).map dg ++ zQ.cs.drop (0 + l.length) = (askQ l).cs := by
  match l, h with
  | [], _ => rfl
  | [_], _ => rfl
  | [_, _], _ => rfl
  | [_, _, _], _ => rfl
  | [_, _, _, _], _ => rfl
  | _ :: _ :: _ :: _ :: _ :: _, h => simp at h
theorem flat_ints (l : List Int) : (flatU (intsU l)).length = l.length := by
  induction l with
  | nil => rfl
  | cons x l ih => show ([U.int .i64 x] ++ flatU (intsU l)).length = _; rw [List.length_append, ih, List.length_cons]; simp; omega
theorem one_ints (l : List Int) : (flatU (intsU l)).all oneU = true := by
  induction l with
  | nil => rfl
  | cons x l ih => show ([U.int .i64 x] ++ flatU (intsU l)).all oneU = _; rw [List.all_append, ih]; rfl
theorem sto_ok {b : Bk} (hb : Ok b) : QOk (stoQ b) := by
  have key : ∀ i, 0 ≤ stk b b.lots.length i ∧ stk b b.lots.length i ≤ 24 := fun i => by
    unfold stk
    split
    · cases h : b.lots[i]? with
      | none => simp
      | some q => have := hb.lots q (List.mem_of_getElem? h); show 0 ≤ q.a ∧ q.a ≤ 24; omega
    · omega
  exact ⟨key 0, key 1, key 2, key 3⟩
noncomputable def rg34 : Code × Code := match b30 with
  | .seq _ (.seq _ (.seq _ (.seq _ (.seq (.seq _ (.block _ (.rangeFunc _ _ a b))) _)))) => (a, b)
  | _ => (.skip, .skip)
noncomputable def lp34 : Lp := ⟨fun i => dg (lookU [(2, .box 0 0), (4, .box 1 0), (5, .box 2 0), (22, .fn 77 [] [.box 4 0, .box 5 0, .box 3 0])] i .junk), [23], rg34.1, rg34.2⟩
noncomputable def X34 (b : Bk) (many : Int) (a : Qd) (r : Bool) (q : Lq) : List SB := [.box (bkN b b.lots.length), .box [.bool r], .box a.cs, .box (bkN b b.lots.length), .box (stoQ b).cs, .box [.int .i64 many], .loop q lp34]
set_option maxHeartbeats 4000000 in
theorem yield34 (b : Bk) (many : Int) (a : Qd) (q : Qd) (e : List SB) :
    WpY Tryz.prog is orc 6 lp34 [q.u] (X34 b many a false .ready ++ e) fun u st' =>
      (eqQ q a = false ∧ u = .bool true ∧ ∃ e', Ext e' ∧ st' = X34 b many a false .ready ++ (e ++ e')) ∨ (eqQ q a = true ∧ u = .bool false ∧ ∃ e', Ext e' ∧ st' = X34 b many a true (.done .ret) ++ (e ++ e')) := by
  show Wp _ _ _ rg34.1 _ _
  show Wp _ _ _ _ ⟨_, [], X34 b many a false .ready ++ e⟩ _
  have hl : (X34 b many a false .ready ++ e).length = 7 + e.length := by simp [X34]; omega
  have hst0 : ∀ x y : SB, ((X34 b many a false .ready ++ e) ++ [x]).set (X34 b many a false .ready ++ e).length y = X34 b many a false .ready ++ (e ++ [y]) := fun x y => by rw [set_end, List.append_assoc]
  refine k_region ?_
  refine o_alloc rfl ze57 ?_
  refine o_storeN rfl (at_new _ _) sh57 rfl rfl rfl rfl rfl ?_
  refine o_nil ?_
  refine ⟨rfl, ?_, ?_⟩
  · show (((X34 b many a false .ready ++ e) ++ [_]).set (X34 b many a false .ready ++ e).length (SB.box _))[6]? = _
    rw [hst0]; rfl
  refine k_gen [(4, .box 1 0), (5, .box 2 0), (6, .box (7 + e.length) 0)] (X34 b many a false .busy ++ (e ++ [.box q.cs])) (.cons rfl (.cons rfl (.cons (by show U.box (X34 b many a false .ready ++ e).length 0 = _; rw [hl]) (.nil rfl)))) (by
    show (((X34 b many a false .ready ++ e) ++ [_]).set (X34 b many a false .ready ++ e).length (SB.box q.cs)).set 6 (.loop .busy lp34) = _
    rw [hst0]; rfl) fun fr => ?_
  have hb6 : (X34 b many a false .busy ++ (e ++ [SB.box q.cs]))[7 + e.length]? = some (.box q.cs) := by
    rw [← List.append_assoc, show 7 + e.length = (X34 b many a false .busy ++ e).length by simp [X34]; omega]; exact at_new _ _
  show Wp _ _ _ rg34.2 _ _
  refine k_block ?_
  refine k_seq ?_
  refine k_region ?_
  refine o_loadN rfl rfl (by exact hb6) sh57 rfl ?_
  refine o_loadN rfl rfl (cs := a.cs) rfl sh57 rfl ?_
  refine o_binK rfl rfl rfl rfl rfl (eql_q q a) ?_
  refine o_nil ?_
  refine k_cond rfl (fun h1 => ?_) (fun h1 => ?_)
  · refine k_seq ?_
    refine k_region ?_
    refine o_store1 rfl (cs := [.bool false]) rfl sh4 rfl rfl ?_
    refine o_nil ?_
    refine k_ret ?_
    exact ⟨rfl, .inr ⟨h1, rfl, [.box q.cs], Ext.snoc (l := []) .nil (nb_qd q), rfl⟩⟩
  · refine k_skip ?_
    exact ⟨rfl, .inl ⟨h1, rfl, [.box q.cs], Ext.snoc (l := []) .nil (nb_qd q), rfl⟩⟩
theorem lp34_bd (i : Nat) : Bd 6 (lp34.fr i) := by
  refine lookU_all (p := fun u => Bd 6 (dg u)) ?_ (Bd.junk _) i
  intro x hx
  simp only [List.mem_cons, List.not_mem_nil, or_false] at hx
  rcases hx with rfl | rfl | rfl | rfl
  · exact Bd.box (by omega)
  · exact Bd.box (by omega)
  · exact Bd.box (by omega)
  · refine Bd.fn (fun u hu => by cases hu) fun u hu => ?_
    simp only [List.mem_cons, List.not_mem_nil, or_false] at hu
    rcases hu with rfl | rfl | rfl <;> exact Bd.box (by omega)
theorem bd_X34 (b : Bk) (many : Int) (a : Qd) (r : Bool) (q : Lq) : ∀ x ∈ X34 b many a r q, BdS 7 x := fun x hx => by
  simp only [X34, List.mem_cons, List.not_mem_nil, or_false] at hx
  rcases hx with rfl | rfl | rfl | rfl | rfl | rfl | rfl
  · exact bd_bkN b _ 7
  · intro c hc; rcases List.mem_singleton.1 hc with rfl; exact Bd.bool _ _
  · exact bd_qd a 7
  · exact bd_bkN b _ 7
  · exact bd_qd _ 7
  · intro c hc; rcases List.mem_singleton.1 hc with rfl; exact Bd.int _ _ _
  · exact fun i => Bd.mono (lp34_bd i) (by omega)
theorem seen34 (b : Bk) (many : Int) (a : Qd) : SeenR b b.lots.length (stoQ b) many 7 6 4 5 3 lp34 (fun q => eqQ q a) (fun _ => X34 b many a false .ready) (X34 b many a true (.done .ret)) :=
  ⟨fun _ => rfl, rfl, fun _ => bd_X34 b many a _ _, bd_X34 b many a _ _, fun _ => rfl, fun _ => rfl, fun _ => rfl, fun _ => rfl, fun i => dg_noOwn _, ⟨23, rfl, rfl⟩, fun is orc _ l q e _ => yield34 b many a q e⟩
def isM (b : Bk) (l : List Int) : Bool := (rights b (stoQ b) (sumI l)).any fun q => eqQ q (askQ l)
theorem no_bkF (b : Bk) : NoOwn (bkF b) := no_agg _
set_option maxHeartbeats 8000000 in
theorem ret30 (hi : Off is) {b : Bk} (hb : Ok b) (l : List Int) (hl : l.length = b.lots.length) (hx : ∀ x ∈ l, 0 ≤ x ∧ x ≤ 6) (hs : 0 ≤ sumI l ∧ sumI l ≤ 24) : RetP Tryz.prog is orc 30 [bkF b, .lst .ro 1 (intsU l)] (.bool (isM b l)) := by
  have hnl := hb.nl
  refine ret_of_shared body30 pure30 rfl rfl (by
    intro u hu
    simp only [List.mem_cons, List.not_mem_nil, or_false] at hu
    rcases hu with rfl | rfl
    · exact ⟨(dat_bkN b _ 6).nb, no_bkF b⟩
    · exact ⟨(dat_ints 6 .ro (fun h => by cases h) 1 l).nb, no_lst (fun h => by cases h) _ _⟩) (NB.bool _) ?_
  refine k_seq ?_
  refine k_region ?_
  refine o_box rfl rfl ?_
  refine o_alloc rfl ze4 ?_
  refine o_nil ?_
  refine k_seq ?_
  refine k_seq ?_
  refine k_region ?_
  refine o_move rfl ?_
  refine o_len rfl ty29 rfl rfl ?_
  refine o_faddr rfl rfl fld60_0 ?_
  refine o_faddr rfl rfl fld28_0 ?_
  refine o_load1 rfl rfl rfl sh22 rfl ?_
  refine o_len rfl ty22 rfl rfl ?_
  refine o_neq rfl rfl rfl ?_
  refine o_nil ?_
  refine k_cond rfl (fun h1 => absurd (of_decide_eq_true h1) (by simp [hl])) (fun h1 => ?_)
  refine k_skip ?_
  refine k_gen [(1, .lst .ro 1 (intsU l)), (2, .box 0 0), (4, .box 1 0)] [.box (bkN b b.lots.length), .box [.bool false]] (.cons rfl (.cons rfl (.cons rfl (.nil rfl)))) rfl fun fr => ?_
  refine k_seq ?_
  refine k_region ?_
  refine o_alloc rfl ze57 ?_
  refine o_nil ?_
  refine k_seq ?_
  refine k_region ?_
  refine o_sliceB rfl ty57 cl3 rfl rfl rfl ?_
  refine o_move rfl ?_
  refine o_copyB (cs := zQ.cs) (es := intsU l) (m := l.length) rfl rfl ty29 cl3 rfl rfl (.inl rfl) rfl (by simp; omega) (by simp; omega) (one_ints l) (flat_ints l) (by show 0 + l.length ≤ 4; omega) ?_
  refine o_nil ?_
  refine k_gen [(1, .lst .ro 1 (intsU l)), (2, .box 0 0), (4, .box 1 0), (5, .box 2 0)] [.box (bkN b b.lots.length), .box [.bool false], .box (askQ l).cs] (.cons rfl (.cons rfl (.cons rfl (.cons rfl (.nil rfl))))) (by
    show [SB.box (bkN b b.lots.length), .box [.bool false], .box (zQ.cs.take 0 ++ (flatU (intsU l)).map dg ++ zQ.cs.drop (0 + l.length))] = _
    rw [ask_cs (by omega)]) fun fr => ?_
  refine k_seq ?_
  refine k_seq ?_
  refine k_draw [.read true, .plain, .read true, .plain, .read false, .plain] (by kernel_rfl) (by kernel_rfl) (by kernel_rfl) ?_
  refine d_load rfl (o_loadN rfl rfl rfl sh60 rfl (o_nil rfl)) ?_
  refine d_plain (o_faddr rfl rfl fld60_1 (o_nil rfl)) ?_
  refine d_load rfl (o_loadN rfl rfl rfl sh57 rfl (o_nil rfl)) ?_
  refine d_plain (o_move rfl (o_nil rfl)) ?_
  refine d_callR rfl (ret57 hi l (by omega) (fun x h => by have := hx x h; omega)) (flat_int _) (.lrefl _) ?_
  refine d_callW rfl (wpc56 b b.lots.length (stoQ b) (sumI l) _) (.lrefl _) ?_
  refine d_nil ?_
  refine k_block ?_
  refine k_forget [(2, .box 0 0), (4, .box 1 0), (5, .box 2 0), (22, .fn 77 [] [.box 4 0, .box 5 0, .box 3 0])] [.box (bkN b b.lots.length), .box [.bool false], .box (askQ l).cs, .box (bkN b b.lots.length), .box (stoQ b).cs, .box [.int .i64 (sumI l)]] (.cons rfl (.cons rfl (.cons rfl (.cons rfl (.nil rfl))))) rfl ?_
  have bd6 : ∀ r : Bool, ∀ y ∈ [SB.box (bkN b b.lots.length), .box [.bool r], .box (askQ l).cs, .box (bkN b b.lots.length), .box (stoQ b).cs, .box [.int .i64 (sumI l)]], BdS 6 y := fun r y hy => by
    simp only [List.mem_cons, List.not_mem_nil, or_false] at hy
    rcases hy with rfl | rfl | rfl | rfl | rfl | rfl
    · exact bd_bkN b _ 6
    · intro c hc; rcases List.mem_singleton.1 hc with rfl; exact Bd.bool _ _
    · exact bd_qd _ 6
    · exact bd_bkN b _ 6
    · exact bd_qd _ 6
    · intro c hc; rcases List.mem_singleton.1 hc with rfl; exact Bd.int _ _ _
  refine k_range (g := 77) rfl ((wpc77 hi hb (sto_ok hb) hs (seen34 b (sumI l) (askQ l))).mono fun _ st' hst => ?_)
  rcases hst with ⟨hno, rfl⟩ | ⟨hno, rfl⟩
  · refine ⟨.ready, rfl, ?_, ?_⟩
    · exact bd6 false
    · refine k_gen [(4, .box 1 0)] [.box (bkN b b.lots.length), .box [.bool false], .box (askQ l).cs, .box (bkN b b.lots.length), .box (stoQ b).cs, .box [.int .i64 (sumI l)]] (.cons rfl (.nil rfl)) rfl fun fr => ?_
      refine k_seq ?_
      refine k_region ?_
      refine o_store1 rfl (cs := [.bool false]) rfl sh4 rfl rfl ?_
      refine o_nil ?_
      refine k_ret ?_
      refine ⟨.inr rfl, _, .cons _ _ _ _ (.cell1 4 4 _ _ _ _ rfl rfl sh4 rfl) .nil, ?_⟩
      rw [show isM b l = false from hno]; exact .refl _
  · refine ⟨.done .ret, rfl, ?_, ?_⟩
    · exact bd6 true
    · show _ ∧ _
      refine ⟨.inr rfl, _, .cons _ _ _ _ (.cell1 4 4 _ _ _ _ rfl rfl sh4 rfl) .nil, ?_⟩
      rw [show isM b l = true from hno]; exact .refl _
set_option maxHeartbeats 4000000 in
theorem ret7 (hi : Off is) {b : Bk} (hb : Ok b) (l : List Int) (hl : l.length = b.lots.length) (hx : ∀ x ∈ l, 0 ≤ x ∧ x ≤ 6) (hs : 0 ≤ sumI l ∧ sumI l ≤ 24) : RetP Tryz.prog is orc 7 [b.u, .lst .ro 1 (intsU l)] (.tup [.bool (isM b l), .int .i64 0]) := by
  refine ret_of body7 pure7 (hi 7 (by decide)) rfl rfl (dat_l2 (dat_bk b 5) (dat_ints 6 .ro (fun h => by cases h) 1 l)) (.inr ⟨_, rfl, dat_l2 (k := 7) (.bool _ _) (.int _ _ _)⟩) ?_
  refine k_seq (k_region ?_)
  refine o_box rfl rfl ?_
  refine o_assign rfl ?_
  refine o_assign rfl ?_
  refine o_nil ?_
  refine k_gen [(1, U.lst Kd.ro 1 (intsU l)), (2, U.box 0 0)] ([SB.box [U.lst Kd.ro 3 (trisU (Bk.lots b)), .int .i64 (Bk.tlo b), .int .i64 (Bk.thi b), .int .i64 (Bk.thick b), .int .i64 (Bk.crack b), .int .i64 (Bk.glo b), .int .i64 (Bk.ghi b), U.lst Kd.ro 2 (twosU (Bk.thins b)), .int .i64 (Bk.hot b), .int .i64 (Bk.least b), .int .i64 (Bk.clo b), .int .i64 (Bk.chi b), .int .i64 (Bk.coal b), U.lst Kd.ro 3 (trisU (Bk.looks b))]]) (.cons rfl (.cons rfl (.nil rfl))) rfl fun fr => ?_
  refine k_seq (k_region ?_)
  refine o_loadN rfl rfl rfl sh28 rfl ?_
  refine o_call rfl (ret29 hi hb) (.lrefl _) ?_
  refine o_move rfl ?_
  refine o_extract rfl rfl rfl ?_
  refine o_extract rfl rfl rfl ?_
  refine o_alloc rfl ze60 ?_
  refine o_storeN rfl rfl sh60 rfl rfl rfl rfl rfl ?_
  refine o_assign rfl ?_
  refine o_nil ?_
  refine k_gen [(1, U.lst Kd.ro 1 (intsU l)), (6, U.box 1 0), (7, .int .i64 0)] ([SB.box [U.lst Kd.ro 3 (trisU (Bk.lots b)), .int .i64 (Bk.tlo b), .int .i64 (Bk.thi b), .int .i64 (Bk.thick b), .int .i64 (Bk.crack b), .int .i64 (Bk.glo b), .int .i64 (Bk.ghi b), U.lst Kd.ro 2 (twosU (Bk.thins b)), .int .i64 (Bk.hot b), .int .i64 (Bk.least b), .int .i64 (Bk.clo b), .int .i64 (Bk.chi b), .int .i64 (Bk.coal b), U.lst Kd.ro 3 (trisU (Bk.looks b))], SB.box [U.lst Kd.ro 3 (trisU (Bk.lots b)), .int .i64 (Bk.tlo b), .int .i64 (Bk.thi b), .int .i64 (Bk.thick b), .int .i64 (Bk.crack b), .int .i64 (Bk.glo b), .int .i64 (Bk.ghi b), U.lst Kd.ro 2 (twosU (Bk.thins b)), .int .i64 (Bk.hot b), .int .i64 (Bk.least b), .int .i64 (Bk.clo b), .int .i64 (Bk.chi b), .int .i64 (Bk.coal b), U.lst Kd.ro 3 (trisU (Bk.looks b)), .int .i64 (stk b (List.length (Bk.lots b)) 0), .int .i64 (stk b (List.length (Bk.lots b)) 1), .int .i64 (stk b (List.length (Bk.lots b)) 2), .int .i64 (stk b (List.length (Bk.lots b)) 3), U.lst Kd.full 0 []]]) (.cons rfl (.cons rfl (.cons rfl (.nil rfl)))) rfl fun fr => ?_
  refine k_seq ?_
  refine k_seq (k_region ?_)
  refine o_move rfl ?_
  refine o_neq rfl rfl rfl ?_
  refine o_nil ?_
  refine k_cF rfl rfl ?_
  refine k_skip ?_
  refine k_seq (k_region ?_)
  refine o_loadN rfl rfl rfl sh60 rfl ?_
  refine o_move rfl ?_
  refine o_call rfl (ret30 hi hb l hl hx hs) (.lrefl _) ?_
  refine o_assign rfl ?_
  refine o_assign rfl ?_
  refine o_nil ?_
  refine k_ret ?_
  refine ⟨.inr rfl, _, .cons _ _ _ _ (.tmp 4) (.cons _ _ _ _ (.tmp 5) .nil), ?_⟩
  exact .refl _
noncomputable def b54 : Code := (Tryz.f54.body).getD .skip
theorem body54 : bodyOf Tryz.prog 54 = some (15, b54, [.tmp 4]) := by kernel_rfl
theorem pure54 : pureFn Tryz.prog 54 = true := by kernel_rfl
theorem by3 : Program.bytesOf Tryz.prog 3 = 8 := by kernel_rfl
theorem ze3 : zeroL Tryz.prog 3 = some ((.cons (.int .i64 0) .nil) : V) := by kernel_rfl
theorem ap29_29 : AppT Tryz.prog 29 29 3 1 8 ((.cons (.int .i64 0) .nil) : V) := ⟨ty29, ⟨_, ty29⟩, cl3, by decide, by3, ze3, rfl⟩
noncomputable def b26 : Code := (Tryz.f26.body).getD .skip
theorem body26 : bodyOf Tryz.prog 26 = some (29, b26, [.tmp 4]) := by kernel_rfl
theorem pure26 : pureFn Tryz.prog 26 = true := by kernel_rfl
def nthI (l : List Int) (i : Nat) : Int := (l[i % l.length]?).getD 0
set_option maxHeartbeats 4000000 in
theorem ret21n (hi : Off is) (n m : Int) (hm : 0 < m) (hn : 0 ≤ n) : RetP Tryz.prog is orc 21 [.int .i64 n, .int .i64 m] (.int .i64 (n % m)) := by
  refine ret_of body21 pure21 (hi 21 (by decide)) rfl rfl (dat_l2 (.int _ _ _) (.int _ _ _)) (.inl (.int _ _ _)) ?_
  refine k_seq ?_
  refine k_region ?_   
  refine o_assign rfl ?_
  refine o_nil ?_
  refine k_seq ?_
  refine k_seq ?_
  refine k_region ?_   
  refine o_move rfl ?_
  refine o_lss rfl rfl rfl ?_
  refine o_nil ?_
  refine k_cond rfl (fun h1 => ?_) (fun h1 => ?_)
  · refine k_seq ?_
    refine k_region ?_   
    refine o_assign rfl ?_
    refine o_nil ?_
    refine k_ret ?_
    refine ⟨.inr rfl, _, .cons _ _ _ _ (.tmp 4) .nil, ?_⟩
    exact absurd (of_decide_eq_true h1) (by omega)
  · refine k_skip ?_
    refine k_seq ?_
    refine k_region ?_   
    refine o_move rfl ?_
    refine o_move rfl ?_
    refine o_rem rfl rfl rfl (by omega) ?_
    refine o_assign rfl ?_
    refine o_nil ?_
    refine k_seq ?_
    refine k_seq ?_
    refine k_region ?_   
    refine o_move rfl ?_
    refine o_lss rfl rfl rfl ?_
    refine o_nil ?_
    refine k_cond rfl (fun h2 => ?_) (fun h2 => ?_)
    · exact absurd (show n.tmod m < 0 from of_decide_eq_true h2) (by have := Int.tmod_nonneg m hn; omega)
    · refine k_skip ?_
      refine k_seq ?_
      refine k_region ?_   
      refine o_move rfl ?_
      refine o_assign rfl ?_
      refine o_nil ?_
      refine k_ret ?_
      refine ⟨.inr rfl, _, .cons _ _ _ _ (.tmp 4) .nil, ?_⟩
      rw [show n.tmod m = n % m from turn_pos hm (by have := of_decide_eq_false h2; omega)]; exact .refl _
set_option maxHeartbeats 4000000 in
theorem ret54 (hi : Off is) (l : List Int) (i : Nat) : RetP Tryz.prog is orc 54 [.lst .ro 1 (intsU l), .int .i64 i] (.int .i64 (nthI l i)) := by
  refine ret_of body54 pure54 (hi 54 (by decide)) rfl rfl (dat_l2 (dat_ints 6 .ro (fun h => by cases h) 1 l) (.int _ _ _)) (.inl (.int _ _ _)) ?_
  refine k_seq ?_
  refine k_region ?_   
  refine o_assign rfl ?_
  refine o_nil ?_
  refine k_seq ?_
  refine k_seq ?_
  refine k_region ?_   
  refine o_move rfl ?_
  refine o_len rfl ty29 rfl rfl ?_
  refine o_eql rfl rfl rfl ?_
  refine o_nil ?_
  refine k_cond rfl (fun h1 => ?_) (fun h1 => ?_)
  · refine k_seq ?_
    refine k_region ?_   
    refine o_assign rfl ?_
    refine o_nil ?_
    refine k_ret ?_
    refine ⟨.inr rfl, _, .cons _ _ _ _ (.tmp 4) .nil, ?_⟩
    have h0 : l = [] := by
      have := of_decide_eq_true h1
      simp at this; exact this
    rw [h0]; exact .refl _
  · have hl : 0 < l.length := by
      have := of_decide_eq_false h1
      simp at this; exact List.length_pos_iff.2 this
    obtain ⟨q, hq⟩ : ∃ q, l[i % l.length]? = some q := ⟨_, List.getElem?_eq_getElem (Nat.mod_lt i hl)⟩
    have he : ((i : Int) % ((intsU l).length : Int)) = ((i % l.length : Nat) : Int) := by simp
    refine k_skip ?_
    refine k_seq ?_
    refine k_region ?_   
    refine o_move rfl ?_
    refine o_move rfl ?_
    refine o_move rfl ?_
    refine o_len rfl ty29 rfl rfl ?_
    refine o_call rfl (ret21n hi i _ (by simp; omega) (Int.natCast_nonneg i)) (.lrefl _) ?_
    refine o_idx (u := .int .i64 q) rfl ty29 rfl rfl (Int.emod_nonneg _ (by simp only [List.length_map]; omega)) (by rw [he, Int.toNat_natCast]; simp [hq]) cl3 ?_
    first | refine o_load1 rfl rfl rfl sh3 rfl ?_ | refine o_loadR1 rfl rfl sh3 rfl ?_
    refine o_assign rfl ?_
    refine o_nil ?_
    refine k_ret ?_
    refine ⟨.inr rfl, _, .cons _ _ _ _ (.tmp 4) .nil, ?_⟩
    rw [show nthI l i = q by unfold nthI; rw [hq]; rfl]; exact .refl _
def accI (l : List Int) : U := match l with
  | [] => .lst .full 0 []
  | l => .lst .own 1 (intsU l)
theorem accI_snoc (x : Int) (l : List Int) : accI (l ++ [x]) = .lst .own 1 (intsU l ++ [.int .i64 x]) := by
  cases l with
  | nil => rfl
  | cons y l => show U.lst .own 1 (intsU (y :: (l ++ [x]))) = _; rw [show y :: (l ++ [x]) = (y :: l) ++ [x] from rfl, show intsU ((y :: l) ++ [x]) = intsU (y :: l) ++ intsU [x] from List.map_append ..]; rfl
def takI (b : Bk) (bits : List Int) (n : Nat) : List Int := (List.range n).map fun i : Nat => nthI bits i % ((((b.lots[i]?).map Tri.a).getD 0) + 1)
theorem tak_succ {b : Bk} {n : Nat} {q : Tri} (bits : List Int) (h : b.lots[n]? = some q) : takI b bits (n + 1) = takI b bits n ++ [nthI bits n % (q.a + 1)] := by
  unfold takI
  rw [List.range_succ, List.map_append, List.map_singleton, h]; rfl
theorem tak_len (b : Bk) (bits : List Int) (n : Nat) : (takI b bits n).length = n := by unfold takI; simp
theorem tak_b {b : Bk} (hb : Ok b) (bits : List Int) (n : Nat) : ∀ x ∈ takI b bits n, 0 ≤ x ∧ x ≤ 6 := fun x hx => by
  obtain ⟨i, _, rfl⟩ := List.mem_map.1 hx
  show 0 ≤ nthI bits i % ((((b.lots[i]?).map Tri.a).getD 0) + 1) ∧ _
  cases h : b.lots[i]? with
  | none => show 0 ≤ nthI bits i % (0 + 1) ∧ nthI bits i % (0 + 1) ≤ 6; omega
  | some q =>
    have := hb.lots q (List.mem_of_getElem? h)
    have h1 := Int.emod_nonneg (nthI bits i) (show q.a + 1 ≠ 0 by omega)
    have h2 := Int.emod_lt_of_pos (nthI bits i) (show 0 < q.a + 1 by omega)
    show 0 ≤ nthI bits i % (q.a + 1) ∧ nthI bits i % (q.a + 1) ≤ 6; omega
set_option maxHeartbeats 4000000 in
theorem ret26 (hi : Off is) {b : Bk} (hb : Ok b) (bits : List Int) : RetP Tryz.prog is orc 26 [b.u, .lst .ro 1 (intsU bits)] (.lst .ro 1 (intsU (takI b bits b.lots.length))) := by
  refine ret_of body26 pure26 (hi 26 (by decide)) rfl rfl (dat_l2 (dat_bk b 5) (dat_ints 6 .ro (fun h => by cases h) 1 bits)) (.inl (dat_ints 6 .ro (fun h => by cases h) 1 _)) ?_
  have hnl := hb.nl
  refine k_seq (k_region ?_)
  refine o_box rfl rfl ?_
  refine o_assign rfl ?_
  refine o_nil ?_
  refine k_gen [(1, U.lst Kd.ro 1 (intsU bits)), (2, U.box 0 0)] ([SB.box [U.lst Kd.ro 3 (trisU (Bk.lots b)), .int .i64 (Bk.tlo b), .int .i64 (Bk.thi b), .int .i64 (Bk.thick b), .int .i64 (Bk.crack b), .int .i64 (Bk.glo b), .int .i64 (Bk.ghi b), U.lst Kd.ro 2 (twosU (Bk.thins b)), .int .i64 (Bk.hot b), .int .i64 (Bk.least b), .int .i64 (Bk.clo b), .int .i64 (Bk.chi b), .int .i64 (Bk.coal b), U.lst Kd.ro 3 (trisU (Bk.looks b))]]) (.cons rfl (.cons rfl (.nil rfl))) rfl fun fr => ?_
  refine k_seq (k_region ?_)
  refine o_assign rfl ?_
  refine o_nil ?_
  refine k_seq ?_
  refine k_seq (k_region ?_)
  refine o_assign rfl ?_
  refine o_nil ?_
  refine k_block ?_
  refine k_loop (fun k st => ∃ (i : Nat), k + i = b.lots.length ∧ st.st = [.box b.cs] ∧ Holds st [(1, .lst .ro 1 (intsU bits)), (2, .box 0 0), (5, accI (takI b bits i)), (6, .int .i64 i)]) (fun k st hI => ?_) b.lots.length _ ?_
  · obtain ⟨i, hki, hst, hs⟩ := hI
    have hA0 := tak_len b bits i
    by_cases hil : i < b.lots.length
    · obtain ⟨q, hq⟩ : ∃ q, b.lots[i]? = some q := ⟨b.lots[i], List.getElem?_eq_getElem hil⟩
      have hqb := hb.lots q (List.mem_of_getElem? hq)
      have hsucc := tak_succ bits hq
      generalize takI b bits i = A at hs hA0 hsucc
      cases A with
      | nil =>
        have hs : Holds st [(1, .lst .ro 1 (intsU bits)), (2, .box 0 0), (5, .lst .full 0 []), (6, .int .i64 i)] := hs
        refine k_gen _ _ hs hst fun fr => ?_
        refine k_seq ?_
        refine k_seq (k_region ?_)
        refine o_move rfl ?_
        refine o_faddr rfl rfl fld28_0 ?_
        refine o_load1 rfl rfl rfl sh22 rfl ?_
        refine o_len rfl ty22 rfl (List.length_map _) ?_
        refine o_lss rfl rfl rfl ?_
        refine o_nil ?_
        refine k_cT rfl (decide_eq_true (by omega)) ?_
        refine k_skip ?_
        refine k_seq ?_
        refine k_block ?_
        refine k_draw [.plain, .plain, .plain, .read false, .plain, .read true, .plain, .plain, .plain, .read true, .plain, .plain, .plain, .plain, .plain] (by kernel_rfl) (by kernel_rfl) (by kernel_rfl) ?_
        refine d_plain (o_move rfl (o_nil rfl)) ?_
        refine d_plain (o_move rfl (o_nil rfl)) ?_
        refine d_plain (o_move rfl (o_nil rfl)) ?_
        refine d_callR rfl (ret54 hi bits i) (.int _ _) (.lrefl _) ?_
        refine d_plain (o_faddr rfl rfl fld28_0 (o_nil rfl)) ?_
        refine d_load rfl (o_load1 rfl rfl rfl sh22 rfl (o_nil rfl)) ?_
        refine d_plain (o_move rfl (o_nil rfl)) ?_
        refine d_plain (o_idx (u := (q).u) rfl ty22 rfl rfl (Int.natCast_nonneg _) (by simp [hq]) cl54 (o_nil rfl)) ?_
        refine d_plain (o_faddrR rfl rfl fld54_0 (o_nil rfl)) ?_
        refine d_genA [(1, U.lst Kd.ro 1 (intsU bits)), (2, U.box 0 0), (6, .int .i64 ↑i), (14, U.lst Kd.full 0 []), (17, .int .i64 (nthI bits i)), (22, U.eref [.int .i64 (Tri.a q), .int .i64 (Tri.b q), .int .i64 (Tri.c q)] 0)] [] ([SB.box (Bk.cs b)]) (.cons rfl (.cons rfl (.cons rfl (.cons rfl (.cons rfl (.cons rfl (.nil rfl))))))) rfl rfl fun fr => ?_
        refine d_load rfl (o_loadR1 rfl rfl sh3 rfl (o_nil rfl)) ?_
        refine d_plain (o_add rfl rfl rfl (by unfold I64; omega) (o_nil rfl)) ?_
        refine d_plain (o_call rfl (ret21 hi (nthI bits i) (q.a + 1) (by omega) (by omega)) (.lrefl _) (o_nil rfl)) ?_
        refine d_plain (o_lit (es := [.int .i64 (nthI bits i % (Tri.a q + (1 : Int)))]) rfl ty29 ze3 cl3 rfl rfl rfl rfl rfl rfl rfl rfl (o_nil rfl)) ?_
        refine d_plain (o_appendF rfl ap29_29 rfl rfl (by simp) (by simp) (by simp [flatU, cellsU, oneU]) (by simp) (o_nil rfl)) ?_
        refine d_plain (o_assign rfl (o_nil rfl)) ?_
        refine d_nil ?_
        refine k_gen [(1, U.lst Kd.ro 1 (intsU bits)), (2, U.box 0 0), (5, U.lst Kd.own 1 [.int .i64 (nthI bits i % (Tri.a q + (1 : Int)))]), (6, .int .i64 ↑i)] ([SB.box (Bk.cs b)]) (.cons rfl (.cons rfl (.cons rfl (.cons rfl (.nil rfl))))) rfl fun fr => ?_
        refine k_region ?_
        refine o_move rfl ?_
        refine o_add rfl rfl rfl (by unfold I64; omega) ?_
        refine o_assign rfl ?_
        refine o_nil ?_
        refine ⟨k - 1, by omega, i + 1, by omega, rfl, .cons rfl (.cons rfl (.cons (by rw [hsucc]; rfl) (.cons rfl (.nil rfl))))⟩
      | cons x A =>
        have hs : Holds st [(1, .lst .ro 1 (intsU bits)), (2, .box 0 0), (5, .lst .own 1 (intsU (x :: A))), (6, .int .i64 i)] := hs
        refine k_gen _ _ hs hst fun fr => ?_
        refine k_seq ?_
        refine k_seq (k_region ?_)
        refine o_move rfl ?_
        refine o_faddr rfl rfl fld28_0 ?_
        refine o_load1 rfl rfl rfl sh22 rfl ?_
        refine o_len rfl ty22 rfl (List.length_map _) ?_
        refine o_lss rfl rfl rfl ?_
        refine o_nil ?_
        refine k_cT rfl (decide_eq_true (by omega)) ?_
        refine k_skip ?_
        refine k_seq ?_
        refine k_block ?_
        refine k_draw [.plain, .plain, .plain, .read false, .plain, .read true, .plain, .plain, .plain, .read true, .plain, .plain, .plain, .plain, .plain] (by kernel_rfl) (by kernel_rfl) (by kernel_rfl) ?_
        refine d_plain (o_move rfl (o_nil rfl)) ?_
        refine d_plain (o_move rfl (o_nil rfl)) ?_
        refine d_plain (o_move rfl (o_nil rfl)) ?_
        refine d_callR rfl (ret54 hi bits i) (.int _ _) (.lrefl _) ?_
        refine d_plain (o_faddr rfl rfl fld28_0 (o_nil rfl)) ?_
        refine d_load rfl (o_load1 rfl rfl rfl sh22 rfl (o_nil rfl)) ?_
        refine d_plain (o_move rfl (o_nil rfl)) ?_
        refine d_plain (o_idx (u := (q).u) rfl ty22 rfl rfl (Int.natCast_nonneg _) (by simp [hq]) cl54 (o_nil rfl)) ?_
        refine d_plain (o_faddrR rfl rfl fld54_0 (o_nil rfl)) ?_
        refine d_load rfl (o_loadR1 rfl rfl sh3 rfl (o_nil rfl)) ?_
        refine d_plain (o_add rfl rfl rfl (by unfold I64; omega) (o_nil rfl)) ?_
        refine d_plain (o_call rfl (ret21 hi (nthI bits i) (q.a + 1) (by omega) (by omega)) (.lrefl _) (o_nil rfl)) ?_
        refine d_plain (o_lit (es := [.int .i64 (nthI bits i % (Tri.a q + (1 : Int)))]) rfl ty29 ze3 cl3 rfl rfl rfl rfl rfl rfl rfl rfl (o_nil rfl)) ?_
        refine d_plain (o_appendS 5 rfl ap29_29 rfl rfl rfl (by simp) (by simp) (by simp [flatU, cellsU, oneU]) (by simp at hA0 ⊢; omega) (o_nil rfl)) ?_
        refine d_plain (o_assign rfl (o_nil rfl)) ?_
        refine d_nil ?_
        refine k_region ?_
        refine o_move rfl ?_
        refine o_add rfl rfl rfl (by unfold I64; omega) ?_
        refine o_assign rfl ?_
        refine o_nil ?_
        refine ⟨k - 1, by omega, i + 1, by omega, rfl, .cons rfl (.cons rfl (.cons (by rw [hsucc, accI_snoc]; rfl) (.cons rfl (.nil rfl))))⟩
    · have hil : i = b.lots.length := by omega
      subst hil
      generalize takI b bits b.lots.length = A at hs hA0
      cases A with
      | nil => simp at hA0; omega
      | cons x A =>
        have hs : Holds st [(1, .lst .ro 1 (intsU bits)), (2, .box 0 0), (5, .lst .own 1 (intsU (x :: A))), (6, .int .i64 b.lots.length)] := hs
        refine k_gen _ _ hs hst fun fr => ?_
        refine k_seq ?_
        refine k_seq (k_region ?_)
        refine o_move rfl ?_
        refine o_faddr rfl rfl fld28_0 ?_
        refine o_load1 rfl rfl rfl sh22 rfl ?_
        refine o_len rfl ty22 rfl (List.length_map _) ?_
        refine o_lss rfl rfl rfl ?_
        refine o_nil ?_
        refine k_cF rfl (decide_eq_false (by omega)) ?_
        refine k_exit ?_
        refine k_seq (k_region ?_)
        refine o_move rfl ?_
        refine o_assign rfl ?_
        refine o_nil ?_
        refine k_ret ?_
        refine ⟨.inr rfl, _, .cons _ _ _ _ (.tmp 4) .nil, ?_⟩
        exact .refl _
  · exact ⟨0, by omega, rfl, .cons rfl (.cons rfl (.cons rfl (.cons rfl (.nil rfl))))⟩
end Go.Proofs.YtoldkckmenjknaaGreat.forgeFewest
