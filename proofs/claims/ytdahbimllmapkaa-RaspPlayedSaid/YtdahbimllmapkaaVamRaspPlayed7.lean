/- rasp's functions and the law's, by the logic of trees: what each gives back for all that it may be given. -/
import Derived.Test.YtdahbimllmapkaaVamRaspPlayed6
namespace Go.Proofs.Ytdahbimllmapkaa.raspPlayed
open Vam
set_option linter.unusedVariables false
set_option linter.unusedSimpArgs false
set_option linter.constructorNameAsVariable false
variable {is : FuncId → Bool} {orc : Known}
noncomputable def b65 : Code := (Try.f65.body).getD .skip
theorem body65 : bodyOf Try.prog 65 = some (70, b65, [.tmp 6, .tmp 7, .tmp 8]) := by kernel_rfl
theorem pure65 : pureFn Try.prog 65 = false := by kernel_rfl
def playR (s : Shop) : List Int → Int → Int → Option (List Int × Int)
  | [], off, _ => if fineB s off = true then some ([], off) else none
  | m :: ms, off, metal => if fineB s off = true then none else
    match s.tools[(cho s true off metal).1.toNat]? with
    | some t => if t.a ≤ m ∧ m ≤ t.b then (playR s ms (off + m) (metal - t.c)).map fun x => ((cho s true off metal).1 :: x.1, x.2) else none
    | none => none
def preO (p : List Int) : Option (List Int × Int) → Option (List Int × Int) := Option.map fun x => (p ++ x.1, x.2)
theorem preO_nil (x : Option (List Int × Int)) : preO [] x = x := by cases x <;> rfl
theorem preO_cons (p : List Int) (c : Int) (x : Option (List Int × Int)) : preO p (x.map fun x => (c :: x.1, x.2)) = preO (p ++ [c]) x := by
  cases x with
  | none => rfl
  | some x => show some (p ++ c :: x.1, x.2) = some ((p ++ [c]) ++ x.1, x.2); rw [List.append_assoc]; rfl
def OnWay (s : Shop) (off metal : Int) (n : Nat) : Prop := offB off = true ∧ 0 ≤ metal ∧ (n : Int) + metal ≤ 30 ∧ (cho s true off metal).2 ≠ 31
def playU (x : Option (List Int × Int)) : U := match x with
  | some (l, e) => .tup [.lst .ro 1 (intsU l), .int .i64 e, .bool true]
  | none => .tup [.lst .full 0 [], .int .i64 0, .bool false]
theorem way_next {s : Shop} (hk : SOk s) {off metal : Int} {n : Nat} (h : OnWay s off metal n) (hf : fineB s off = false) : ∃ (j : Nat) (t : Tri), (cho s true off metal).1 = j ∧ s.tools[j]? = some t ∧ ∀ m, t.a ≤ m → m ≤ t.b → OnWay s (off + m) (metal - t.c) (n + 1) := by
  obtain ⟨ho, h0, hn, h31⟩ := h
  obtain ⟨j, t, hq, hc, hsp, _, _⟩ := cho_tool hk h0 hf h31
  refine ⟨j, t, by rw [hc], hq, fun m h1 h2 => ?_⟩
  obtain ⟨a1, a2, a3, _⟩ := after_ok hk (List.mem_of_getElem? hq) hsp h1 h2
  have hb := hk.tools t (List.mem_of_getElem? hq)
  exact ⟨a3, by omega, by omega, a2⟩
set_option maxHeartbeats 4000000 in
theorem wpc75 (hi : Off is) {T K u v : U} {flo fhi off : Int} {st : List SB} (hT : oneU T = true) (hb : ∀ x ∈ st, BdS st.length x) : WpC Try.prog is orc 75 [.agg [T, .int .i64 flo, .int .i64 fhi, K, u, v], .int .i64 off] st fun r st' => r = .bool (decide (flo ≤ off) && decide (off ≤ fhi)) ∧ st' = st := by
  refine wpc_cut body75 pure75 rfl rfl ?_
  refine k_seq (k_region ?_)
  refine o_box rfl rfl ?_
  refine o_assign rfl ?_
  refine o_nil ?_
  refine k_seq (k_region ?_)
  refine o_faddr rfl rfl fld73_0 ?_
  refine o_faddr rfl rfl fld27_1 ?_
  refine o_loadN rfl rfl (at_new _ _) sh24 rfl ?_
  refine o_move rfl ?_
  refine o_call rfl (ret64 hi ..) (.lrefl _) ?_
  refine o_assign rfl ?_
  refine o_nil ?_
  refine k_ret ?_
  refine ⟨.inr rfl, _, .cons _ _ _ _ (.tmp 4) .nil, ?_⟩
  have et : ∀ x : SB, (st ++ [x]).take st.length = st := fun x => List.take_left
  refine ⟨_, .refl _, (NB.bool _).bd _, ?_, ?_, ?_⟩
  · show st.length ≤ (st ++ [_]).length
    rw [List.length_append]; omega
  · exact fun x hx => hb x ((congrArg (x ∈ ·) (et (SB.box [dg T, .int .i64 flo, .int .i64 fhi, dg K, dg u, dg v]))).mp hx)
  · exact ⟨rfl, et (SB.box [dg T, .int .i64 flo, .int .i64 fhi, dg K, dg u, dg v])⟩
theorem uw_dgI (l : List Int) : UW (.u (dg (accI l))) (.u (.lst .ro 1 (intsU l))) := by
  cases l with
  | nil => exact .nil .full .ro 1
  | cons x l => exact .refl _
theorem nb_play (x : Option (List Int × Int)) : NB (playU x) := by
  cases x with
  | none =>
    refine NB.tup fun c hc => ?_
    simp only [List.mem_cons, List.not_mem_nil, or_false] at hc
    rcases hc with rfl | rfl | rfl
    · exact NB.lst fun c hc => by cases hc
    · exact NB.int _ _
    · exact NB.bool _
  | some x =>
    refine NB.tup fun c hc => ?_
    simp only [List.mem_cons, List.not_mem_nil, or_false] at hc
    rcases hc with rfl | rfl | rfl
    · exact nb_ints _ _ _
    · exact NB.int _ _
    · exact NB.bool _
set_option maxHeartbeats 8000000 in
theorem wpc65 (hi : Off is) {s : Shop} (hk : SOk s) {L c wv mp kn fi ch : Nat} {X : List (U × U) → List SB} (h : Sr s true L c wv mp kn fi ch X) {B2 : List U} (hf2 : Bd L (.fn 82 [] B2)) (es : List (U × U)) (e : List SB) (he : Memo s true es) (hbh : Bh L e) {off metal : Int} (hw : OnWay s off metal 0) (ms : List Int) :
    WpC Try.prog is orc 65 [.agg (shopB s c wv kn fi ch B2), spanU off metal, .lst .ro 1 (intsU ms)] (X es ++ e) fun u st' => u = playU (playR s ms off metal) ∧ ∃ es', Memo s true es' ∧ st' = X es' ++ e := by
  obtain ⟨n, hn⟩ : ∃ n, L + e.length = n := ⟨_, rfl⟩
  have hlen : ∀ es', (X es' ++ e).length = n := fun es' => by rw [List.length_append, h.len, hn]
  have hlk : ∀ (es' : List (U × U)) (l : List SB) (i : Nat), (X es' ++ (e ++ l))[n + i]? = l[i]? := fun es' l i => by rw [← List.append_assoc, List.getElem?_append_right (by rw [hlen]; omega), hlen, Nat.add_sub_cancel_left]
  have hset : ∀ (es' : List (U × U)) (l : List SB) (i : Nat) (x : SB), (X es' ++ (e ++ l)).set (n + i) x = X es' ++ (e ++ l.set i x) := fun es' l i x => by rw [← List.append_assoc, List.set_append_right _ _ (by rw [hlen]; omega), hlen, Nat.add_sub_cancel_left, List.append_assoc]
  have hbd : ∀ (es' : List (U × U)), Memo s true es' → ∀ x ∈ X es' ++ e, BdS n x := fun es' he' x hx => by
    rcases List.mem_append.1 hx with hx | hx
    · exact BdS.mono (h.bd es' he' x hx) (by omega)
    · exact BdS.mono (hbh x hx) (by omega)
  have hbh2 : ∀ o m : Int, Bh L (e ++ [SB.box (shopB s c wv kn fi ch B2), SB.box [.int .i64 o, .int .i64 m]]) := fun o m x hx => by
    rcases List.mem_append.1 hx with hx | hx
    · exact BdS.mono (hbh x hx) (by rw [List.length_append]; omega)
    · simp only [List.mem_cons, List.not_mem_nil, or_false] at hx
      rcases hx with rfl | rfl
      · exact bd_shopB h hf2 (by omega)
      · exact fun u hu => (nb_two _ _ u hu).bd _
  have hT : ∀ es', Memo s true es' → ∀ l, (X es ++ e).length ≤ (X es' ++ (e ++ l)).length ∧ (∀ x ∈ (X es' ++ (e ++ l)).take (X es ++ e).length, BdS (X es ++ e).length x) ∧ (X es' ++ (e ++ l)).take (X es ++ e).length = X es' ++ e := fun es' he' l => by
    have et : (X es' ++ (e ++ l)).take (X es ++ e).length = X es' ++ e := by
      rw [← List.append_assoc]; exact List.take_left' (by rw [hlen, hlen])
    refine ⟨?_, ?_, et⟩
    · rw [hlen, ← List.append_assoc, List.length_append, hlen]; omega
    · rw [et, hlen]; exact hbd es' he'
  refine wpc_cut body65 pure65 rfl rfl ?_
  refine k_seq (k_region ?_)
  refine o_box rfl rfl ?_
  refine o_box rfl rfl ?_
  refine o_assign rfl ?_
  refine o_assign rfl ?_
  refine o_assign rfl ?_
  refine o_nil ?_
  refine k_seq ?_
  refine k_block ?_
  refine k_loop (fun kk st => ∃ (i : Nat) (es' : List (U × U)) (p r : List Int) (o m : Int), (kk : Int) = m ∧ p.length = i ∧ Memo s true es' ∧ OnWay s o m i ∧ playR s ms off metal = preO p (playR s r o m) ∧ st.st = X es' ++ (e ++ [.box (shopB s c wv kn fi ch B2), .box [.int .i64 o, .int .i64 m]]) ∧ Holds st [(2, .lst .ro 1 (intsU r)), (3, .box (n + 0) 0), (4, .box (n + 1) 0), (6, accI p)]) (fun kk st hI => ?_) metal.toNat _ ?_
  · obtain ⟨i, es1, p, r, o, m, hkm, hp, he1, hway, hpl, hst, hs⟩ := hI
    refine k_gen _ _ hs hst fun fr => ?_
    have hl0 := fun l => hlk es1 l 0
    have hl1 := fun l => hlk es1 l 1
    have hwy := hway
    obtain ⟨wo, wm0, wmi, w31⟩ := hwy
    have hbo : -60 ≤ o ∧ o ≤ 60 := by unfold offB at wo; simpa using wo
    have hbx : ∀ x ∈ X es1 ++ (e ++ [SB.box (shopB s c wv kn fi ch B2), SB.box [.int .i64 o, .int .i64 m]]), BdS (X es1 ++ (e ++ [SB.box (shopB s c wv kn fi ch B2), SB.box [.int .i64 o, .int .i64 m]])).length x := fun x hx => by
      have hle : (X es1 ++ (e ++ [SB.box (shopB s c wv kn fi ch B2), SB.box [.int .i64 o, .int .i64 m]])).length = L + (e ++ [SB.box (shopB s c wv kn fi ch B2), SB.box [.int .i64 o, .int .i64 m]]).length := by rw [List.length_append, h.len]
      rw [hle]
      rcases List.mem_append.1 hx with hx | hx
      · exact BdS.mono (h.bd es1 he1 x hx) (by omega)
      · exact hbh2 o m x hx
    refine k_seq ?_
    refine k_seq (k_region ?_)
    refine o_loadN rfl rfl (hl0 _) sh73 rfl ?_
    refine o_faddr rfl rfl fld80_0 ?_
    refine o_load1 rfl rfl (hl1 _) sh3 rfl ?_
    (refine o_callW rfl (wpc75 hi rfl hbx) (.lrefl _) (fun u st1 hM => ?_); obtain ⟨rfl, rfl⟩ := hM)
    refine o_not rfl rfl ?_
    refine o_nil ?_
    refine k_cond rfl (fun h14 => ?_) (fun h14 => ?_)
    · refine k_skip ?_
      refine k_block ?_
      refine k_seq (k_region ?_)
      refine o_faddr rfl rfl fld73_1 ?_
      refine o_load1 rfl rfl (hl0 _) sh71 rfl ?_
      refine o_loadN rfl rfl (hl1 _) sh80 rfl ?_
      have hf : fineB s o = false := by have hh : (!(fineB s o)) = true := h14; simpa using hh
      obtain ⟨j, t, hj, hq, hnext⟩ := way_next hk hway hf
      obtain ⟨c1, c2, hcc⟩ : ∃ c1 c2, cho s true o m = (c1, c2) := ⟨_, _, rfl⟩
      rw [hcc] at hj
      have hj : c1 = (j : Int) := hj
      subst hj
      refine o_callV rfl rfl (wpc82 (orc := orc) hi hk h 31 m o (by omega) (by omega) (by omega) es1 _ he1 (hbh2 o m)) (.lrefl _) (fun u st1 hM => ?_)
      obtain ⟨rfl, es2, he2, rfl⟩ := hM
      rw [hcc]
      have hl0 := fun l => hlk es2 l 0
      have hl1 := fun l => hlk es2 l 1
      cases r with
      | nil =>
        refine o_field1 rfl rfl fld78_0 sh3 rfl ?_
        refine o_assign rfl ?_
        refine o_nil ?_
        refine k_seq ?_
        refine k_seq ?_
        refine k_draw [.plain, .plain, .plain, .plain, .plain, .plain, .read true, .plain, .plain, .plain, .read true, .plain, .plain, .read true, .plain, .plain, .plain] (by kernel_rfl) (by kernel_rfl) (by kernel_rfl) ?_
        refine d_plain (o_move rfl (o_nil rfl)) ?_
        refine d_plain (o_len rfl ty38 rfl (List.length_map _) (o_nil rfl)) ?_
        refine d_plain (o_eql rfl rfl rfl (o_nil rfl)) ?_
        refine d_plain (o_move rfl (o_nil rfl)) ?_
        refine d_gS rfl rfl rfl rfl rfl ?_
        refine d_gS rfl rfl rfl rfl rfl ?_
        refine d_gS rfl rfl rfl rfl rfl ?_
        refine d_gS rfl rfl rfl rfl rfl ?_
        refine d_gS rfl rfl rfl rfl rfl ?_
        refine d_genA [(2, U.lst Kd.ro 1 (intsU [])), (3, U.box (n + 0) 0), (4, U.box (n + 1) 0), (6, accI p), (9, .int .i64 (Prod.fst (↑j, c2))), (23, U.bool (Decidable.decide (↑(List.length []) = (0 : Int)))), (24, U.tup []), (25, U.tup []), (26, U.tup []), (27, U.tup []), (28, U.tup [])] [] (X es2 ++ (e ++ [SB.box (shopB s c wv kn fi ch B2), SB.box [.int .i64 o, .int .i64 m]])) (.cons rfl (.cons rfl (.cons rfl (.cons rfl (.cons rfl (.cons rfl (.cons rfl (.cons rfl (.cons rfl (.cons rfl (.cons rfl (.nil rfl)))))))))))) rfl rfl fun fr => ?_
        refine d_gS rfl rfl rfl rfl rfl ?_
        refine d_gS rfl rfl rfl rfl rfl ?_
        refine d_gS rfl rfl rfl rfl rfl ?_
        refine d_gS rfl rfl rfl rfl rfl ?_
        refine d_gS rfl rfl rfl rfl rfl ?_
        refine d_gS rfl rfl rfl rfl rfl ?_
        refine d_gS rfl rfl rfl rfl rfl ?_
        refine d_plain (o_pickT rfl rfl rfl (o_nil rfl)) ?_
        refine d_nil ?_
        refine k_gen [(2, U.lst Kd.ro 1 (intsU [])), (3, U.box (n + 0) 0), (4, U.box (n + 1) 0), (6, accI p), (9, .int .i64 (Prod.fst (↑j, c2))), (24, U.tup []), (25, U.tup []), (26, U.tup []), (27, U.tup []), (28, U.tup []), (29, U.tup []), (30, U.tup []), (31, U.tup []), (32, U.tup []), (33, U.tup []), (34, U.tup []), (35, U.tup []), (36, U.bool Bool.true)] (X es2 ++ (e ++ [SB.box (shopB s c wv kn fi ch B2), SB.box [.int .i64 o, .int .i64 m]])) (.cons rfl (.cons rfl (.cons rfl (.cons rfl (.cons rfl (.cons rfl (.cons rfl (.cons rfl (.cons rfl (.cons rfl (.cons rfl (.cons rfl (.cons rfl (.cons rfl (.cons rfl (.cons rfl (.cons rfl (.cons rfl (.nil rfl))))))))))))))))))) rfl fun fr => ?_
        refine k_cT rfl rfl ?_
        refine k_seq (k_region ?_)
        refine o_assign rfl ?_
        refine o_assign rfl ?_
        refine o_assign rfl ?_
        refine o_nil ?_
        refine k_ret ?_
        refine ⟨.inr rfl, _, .cons _ _ _ _ (.tmp 6) (.cons _ _ _ _ (.tmp 7) (.cons _ _ _ _ (.tmp 8) .nil)), ?_⟩
        obtain ⟨t1, t2, t3⟩ := hT es2 he2 [.box (shopB s c wv kn fi ch B2), .box [.int .i64 o, .int .i64 m]]
        have hres : playR s ms off metal = none := by
          rw [hpl]; unfold playR; rw [if_neg (by rw [hf]; decide)]; rfl
        exact ⟨playU none, .refl _, (nb_play _).bd _, t1, t2, by rw [hres]; rfl, es2, he2, t3⟩
      | cons m1 r =>
        have k23 : decide (((m1 :: r).length : Int) = 0) = false := decide_eq_false (by rw [List.length_cons]; omega)
        have hstep : playR s (m1 :: r) o m = if t.a ≤ m1 ∧ m1 ≤ t.b then (playR s r (o + m1) (m - t.c)).map fun x : List Int × Int => ((j : Int) :: x.1, x.2) else none := by
          show (if fineB s o = true then none else match s.tools[(cho s true o m).1.toNat]? with | some t => if t.a ≤ m1 ∧ m1 ≤ t.b then (playR s r (o + m1) (m - t.c)).map fun x : List Int × Int => ((cho s true o m).1 :: x.1, x.2) else none | none => none) = _
          rw [if_neg (by rw [hf]; decide), hcc]
          show (match s.tools[((j : Int)).toNat]? with | some t => if t.a ≤ m1 ∧ m1 ≤ t.b then (playR s r (o + m1) (m - t.c)).map fun x : List Int × Int => ((j : Int) :: x.1, x.2) else none | none => none) = _
          rw [show ((j : Int)).toNat = j from rfl, hq]
        have htb := hk.tools t (List.mem_of_getElem? hq)
        refine o_field1 rfl rfl fld78_0 sh3 rfl ?_
        refine o_assign rfl ?_
        refine o_nil ?_
        refine k_seq ?_
        refine k_seq ?_
        refine k_draw [.plain, .plain, .plain, .plain, .plain, .plain, .read true, .plain, .plain, .plain, .read true, .plain, .plain, .read true, .plain, .plain, .plain] (by kernel_rfl) (by kernel_rfl) (by kernel_rfl) ?_
        refine d_plain (o_move rfl (o_nil rfl)) ?_
        refine d_plain (o_len rfl ty38 rfl (List.length_map _) (o_nil rfl)) ?_
        refine d_plain (o_eql rfl rfl rfl (o_nil rfl)) ?_
        refine d_plain (o_move rfl (o_nil rfl)) ?_
        refine d_gD rfl rfl rfl rfl (by assumption) ?_
        refine d_plain (o_faddr rfl rfl fld73_0 (o_nil rfl)) ?_
        refine d_gD rfl rfl rfl rfl (by assumption) ?_
        refine d_plain (o_faddr rfl rfl fld27_0 (o_nil rfl)) ?_
        refine d_gD rfl rfl rfl rfl (by assumption) ?_
        refine d_load rfl (o_load1 rfl rfl (hl0 _) sh22 rfl (o_nil rfl)) ?_
        refine d_gD rfl rfl rfl rfl (by assumption) ?_
        refine d_plain (o_move rfl (o_nil rfl)) ?_
        refine d_gD rfl rfl rfl rfl (by assumption) ?_
        refine d_plain (o_idx (u := (t).u) rfl ty22 rfl rfl (Int.natCast_nonneg _) (by simp [hq]) cl52 (o_nil rfl)) ?_
        refine d_genA [(2, U.lst Kd.ro 1 (intsU (m1 :: r))), (3, U.box (n + 0) 0), (4, U.box (n + 1) 0), (6, accI p), (9, .int .i64 (Prod.fst (↑j, c2))), (23, U.bool (Decidable.decide (↑(List.length (m1 :: r)) = (0 : Int)))), (24, U.box (n + 0) 0), (25, U.box (n + 0) 0), (26, U.lst Kd.ro 3 (trisU (Shop.tools s))), (27, .int .i64 (Prod.fst (↑j, c2))), (28, U.eref [.int .i64 (Tri.a t), .int .i64 (Tri.b t), .int .i64 (Tri.c t)] 0)] [] (X es2 ++ (e ++ [SB.box (shopB s c wv kn fi ch B2), SB.box [.int .i64 o, .int .i64 m]])) (.cons rfl (.cons rfl (.cons rfl (.cons rfl (.cons rfl (.cons rfl (.cons rfl (.cons rfl (.cons rfl (.cons rfl (.cons rfl (.nil rfl)))))))))))) rfl rfl fun fr => ?_
        refine d_gD rfl rfl rfl rfl (by assumption) ?_
        refine d_genA [(2, U.lst Kd.ro 1 (intsU (m1 :: r))), (3, U.box (n + 0) 0), (4, U.box (n + 1) 0), (6, accI p), (9, .int .i64 (Prod.fst (↑j, c2))), (23, U.bool (Decidable.decide (↑(List.length (m1 :: r)) = (0 : Int)))), (24, U.box (n + 0) 0), (25, U.box (n + 0) 0), (26, U.lst Kd.ro 3 (trisU (Shop.tools s))), (27, .int .i64 (Prod.fst (↑j, c2))), (28, U.eref [.int .i64 (Tri.a t), .int .i64 (Tri.b t), .int .i64 (Tri.c t)] 0)] [] (X es2 ++ (e ++ [SB.box (shopB s c wv kn fi ch B2), SB.box [.int .i64 o, .int .i64 m]])) (.cons rfl (.cons rfl (.cons rfl (.cons rfl (.cons rfl (.cons rfl (.cons rfl (.cons rfl (.cons rfl (.cons rfl (.cons rfl (.nil rfl)))))))))))) rfl rfl fun fr => ?_
        refine d_plain (o_faddrR rfl rfl fld52_0 (o_nil rfl)) ?_
        refine d_gD rfl rfl rfl rfl (by assumption) ?_
        refine d_load rfl (o_loadRN rfl rfl sh24 rfl (o_nil rfl)) ?_
        refine d_gD rfl rfl rfl rfl (by assumption) ?_
        refine d_plain (o_move rfl (o_nil rfl)) ?_
        refine d_gD rfl rfl rfl rfl (by assumption) ?_
        refine d_plain (o_idx rfl ty38 rfl rfl (by decide) rfl cl3 (o_nil rfl)) ?_
        refine d_gD rfl rfl rfl rfl (by assumption) ?_
        refine d_load rfl (o_loadR1 rfl rfl sh3 rfl (o_nil rfl)) ?_
        refine d_gD rfl rfl rfl rfl (by assumption) ?_
        refine d_plain (o_call rfl (ret64 hi ..) (.lrefl _) (o_nil rfl)) ?_
        refine d_gD rfl rfl rfl rfl (by assumption) ?_
        refine d_plain (o_not rfl rfl (o_nil rfl)) ?_
        refine d_plain (o_pickF rfl rfl rfl (o_nil rfl)) ?_
        refine d_nil ?_
        refine k_gen [(2, U.lst Kd.ro 1 (intsU (m1 :: r))), (3, U.box (n + 0) 0), (4, U.box (n + 1) 0), (6, accI p), (9, .int .i64 (Prod.fst (↑j, c2))), (24, U.box (n + 0) 0), (25, U.box (n + 0) 0), (26, U.lst Kd.ro 3 (trisU (Shop.tools s))), (27, .int .i64 (Prod.fst (↑j, c2))), (28, U.eref [.int .i64 (Tri.a t), .int .i64 (Tri.b t), .int .i64 (Tri.c t)] 0), (29, U.eref [.int .i64 (Tri.a t), .int .i64 (Tri.b t), .int .i64 (Tri.c t)] 0), (30, U.agg [.int .i64 (Tri.a t), .int .i64 (Tri.b t)]), (31, U.lst Kd.ro 1 (intsU (m1 :: r))), (32, U.eref [.int .i64 m1] 0), (33, .int .i64 m1), (34, U.bool (Decidable.decide (Tri.a t ≤ m1) && Decidable.decide (m1 ≤ Tri.b t))), (35, U.bool !(Decidable.decide (Tri.a t ≤ m1) && Decidable.decide (m1 ≤ Tri.b t))), (36, U.bool !(Decidable.decide (Tri.a t ≤ m1) && Decidable.decide (m1 ≤ Tri.b t)))] (X es2 ++ (e ++ [SB.box (shopB s c wv kn fi ch B2), SB.box [.int .i64 o, .int .i64 m]])) (.cons rfl (.cons rfl (.cons rfl (.cons rfl (.cons rfl (.cons rfl (.cons rfl (.cons rfl (.cons rfl (.cons rfl (.cons rfl (.cons rfl (.cons rfl (.cons rfl (.cons rfl (.cons rfl (.cons rfl (.cons rfl (.nil rfl))))))))))))))))))) rfl fun fr => ?_
        refine k_cond rfl (fun h36 => ?_) (fun h36 => ?_)
        · refine k_seq (k_region ?_)
          refine o_assign rfl ?_
          refine o_assign rfl ?_
          refine o_assign rfl ?_
          refine o_nil ?_
          refine k_ret ?_
          refine ⟨.inr rfl, _, .cons _ _ _ _ (.tmp 6) (.cons _ _ _ _ (.tmp 7) (.cons _ _ _ _ (.tmp 8) .nil)), ?_⟩
          have hm1 : ¬ (t.a ≤ m1 ∧ m1 ≤ t.b) := fun e => by simp [e] at h36
          obtain ⟨t1, t2, t3⟩ := hT es2 he2 [.box (shopB s c wv kn fi ch B2), .box [.int .i64 o, .int .i64 m]]
          have hres : playR s ms off metal = none := by rw [hpl, hstep, if_neg hm1]; rfl
          exact ⟨playU none, .refl _, (nb_play _).bd _, t1, t2, by rw [hres]; rfl, es2, he2, t3⟩
        · refine k_skip ?_
          refine k_seq ?_
          refine k_draw [.plain, .read true, .plain, .plain, .read true, .plain, .plain, .read true, .plain, .plain, .read true, .plain, .plain, .plain, .read true, .plain, .plain, .plain] (by kernel_rfl) (by kernel_rfl) (by kernel_rfl) ?_
          refine d_plain (o_faddr rfl rfl fld80_0 (o_nil rfl)) ?_
          refine d_load rfl (o_load1 rfl rfl (hl1 _) sh3 rfl (o_nil rfl)) ?_
          refine d_plain (o_move rfl (o_nil rfl)) ?_
          refine d_plain (o_idx rfl ty38 rfl rfl (by decide) rfl cl3 (o_nil rfl)) ?_
          refine d_load rfl (o_loadR1 rfl rfl sh3 rfl (o_nil rfl)) ?_
          have hm1 : t.a ≤ m1 ∧ m1 ≤ t.b := by simpa using h36
          rw [if_pos hm1] at hstep
          have hnx := hnext m1 hm1.1 hm1.2
          have hacc := accI_snoc (j : Int) p
          have hmt := hnx.2.1
          have hcb := htb.2.2.2.1
          cases p with
          | nil =>
            refine d_plain (o_add rfl rfl rfl (by unfold I64; omega) (o_nil rfl)) ?_
            refine d_plain (o_faddr rfl rfl fld80_1 (o_nil rfl)) ?_
            refine d_load rfl (o_load1 rfl rfl (hl1 _) sh3 rfl (o_nil rfl)) ?_
            refine d_plain (o_faddr rfl rfl fld73_0 (o_nil rfl)) ?_
            refine d_genA [(2, U.lst Kd.ro 1 (intsU (m1 :: r))), (3, U.box (n + 0) 0), (4, U.box (n + 1) 0), (6, accI []), (9, .int .i64 (Prod.fst (↑j, c2))), (24, U.box (n + 0) 0), (25, U.box (n + 0) 0), (26, U.lst Kd.ro 3 (trisU (Shop.tools s))), (27, .int .i64 (Prod.fst (↑j, c2))), (28, U.eref [.int .i64 (Tri.a t), .int .i64 (Tri.b t), .int .i64 (Tri.c t)] 0), (29, U.eref [.int .i64 (Tri.a t), .int .i64 (Tri.b t), .int .i64 (Tri.c t)] 0), (30, U.agg [.int .i64 (Tri.a t), .int .i64 (Tri.b t)]), (31, U.lst Kd.ro 1 (intsU (m1 :: r))), (32, U.eref [.int .i64 m1] 0), (33, .int .i64 m1), (34, U.bool (Decidable.decide (Tri.a t ≤ m1) && Decidable.decide (m1 ≤ Tri.b t))), (35, U.bool !(Decidable.decide (Tri.a t ≤ m1) && Decidable.decide (m1 ≤ Tri.b t))), (42, .int .i64 (o + m1)), (44, .int .i64 m), (45, U.box (n + 0) 0)] [] (X es2 ++ (e ++ [SB.box (shopB s c wv kn fi ch B2), SB.box [.int .i64 o, .int .i64 m]])) (.cons rfl (.cons rfl (.cons rfl (.cons rfl (.cons rfl (.cons rfl (.cons rfl (.cons rfl (.cons rfl (.cons rfl (.cons rfl (.cons rfl (.cons rfl (.cons rfl (.cons rfl (.cons rfl (.cons rfl (.cons rfl (.cons rfl (.cons rfl (.nil rfl))))))))))))))))))))) rfl rfl fun fr => ?_
            refine d_plain (o_faddr rfl rfl fld27_0 (o_nil rfl)) ?_
            refine d_load rfl (o_load1 rfl rfl (hl0 _) sh22 rfl (o_nil rfl)) ?_
            refine d_plain (o_move rfl (o_nil rfl)) ?_
            refine d_plain (o_idx (u := (t).u) rfl ty22 rfl rfl (Int.natCast_nonneg _) (by simp [hq]) cl52 (o_nil rfl)) ?_
            refine d_plain (o_faddrR rfl rfl fld52_1 (o_nil rfl)) ?_
            refine d_load rfl (o_loadR1 rfl rfl sh3 rfl (o_nil rfl)) ?_
            refine d_plain (o_sub rfl rfl rfl (by unfold I64; omega) (o_nil rfl)) ?_
            refine d_plain (o_build rfl ze80 pl80 rfl rfl (o_nil rfl)) ?_
            refine d_plain (o_storeN rfl (hl1 _) sh80 rfl rfl rfl rfl rfl (o_nil rfl)) ?_
            refine d_nil ?_
            refine k_gen [(2, U.lst Kd.ro 1 (intsU (m1 :: r))), (3, U.box (n + 0) 0), (4, U.box (n + 1) 0), (6, accI []), (9, .int .i64 (Prod.fst (↑j, c2))), (24, U.box (n + 0) 0), (25, U.box (n + 0) 0), (26, U.lst Kd.ro 3 (trisU (Shop.tools s))), (27, .int .i64 (Prod.fst (↑j, c2))), (28, U.eref [.int .i64 (Tri.a t), .int .i64 (Tri.b t), .int .i64 (Tri.c t)] 0), (29, U.eref [.int .i64 (Tri.a t), .int .i64 (Tri.b t), .int .i64 (Tri.c t)] 0), (30, U.agg [.int .i64 (Tri.a t), .int .i64 (Tri.b t)]), (31, U.lst Kd.ro 1 (intsU (m1 :: r))), (32, U.eref [.int .i64 m1] 0), (33, .int .i64 m1), (34, U.bool (Decidable.decide (Tri.a t ≤ m1) && Decidable.decide (m1 ≤ Tri.b t))), (35, U.bool !(Decidable.decide (Tri.a t ≤ m1) && Decidable.decide (m1 ≤ Tri.b t)))] (List.set (X es2 ++ (e ++ [SB.box (shopB s c wv kn fi ch B2), SB.box [.int .i64 o, .int .i64 m]])) (n + 1) (SB.box [.int .i64 (o + m1), .int .i64 (m - Tri.c t)])) (.cons rfl (.cons rfl (.cons rfl (.cons rfl (.cons rfl (.cons rfl (.cons rfl (.cons rfl (.cons rfl (.cons rfl (.cons rfl (.cons rfl (.cons rfl (.cons rfl (.cons rfl (.cons rfl (.cons rfl (.nil rfl)))))))))))))))))) rfl fun fr => ?_
            refine k_seq (k_region ?_)
            refine o_move rfl ?_
            refine o_move rfl ?_
            refine o_lit (es := [.int .i64 (Prod.fst (↑j, c2))]) rfl ty38 ze3 cl3 rfl rfl rfl rfl rfl rfl rfl rfl ?_
            refine o_appendF rfl ap38_38 rfl rfl (by simp) (by simp) (by simp [flatU, cellsU, oneU]) (by simp) ?_
            refine o_assign rfl ?_
            refine o_nil ?_
            refine k_gen [(2, U.lst Kd.ro 1 (intsU (m1 :: r))), (3, U.box (n + 0) 0), (4, U.box (n + 1) 0), (6, U.lst Kd.own 1 [.int .i64 (Prod.fst (↑j, c2))]), (24, U.box (n + 0) 0), (25, U.box (n + 0) 0), (26, U.lst Kd.ro 3 (trisU (Shop.tools s))), (27, .int .i64 (Prod.fst (↑j, c2))), (28, U.eref [.int .i64 (Tri.a t), .int .i64 (Tri.b t), .int .i64 (Tri.c t)] 0), (29, U.eref [.int .i64 (Tri.a t), .int .i64 (Tri.b t), .int .i64 (Tri.c t)] 0), (30, U.agg [.int .i64 (Tri.a t), .int .i64 (Tri.b t)]), (31, U.lst Kd.ro 1 (intsU (m1 :: r))), (32, U.eref [.int .i64 m1] 0), (33, .int .i64 m1), (34, U.bool (Decidable.decide (Tri.a t ≤ m1) && Decidable.decide (m1 ≤ Tri.b t))), (35, U.bool !(Decidable.decide (Tri.a t ≤ m1) && Decidable.decide (m1 ≤ Tri.b t)))] (List.set (X es2 ++ (e ++ [SB.box (shopB s c wv kn fi ch B2), SB.box [.int .i64 o, .int .i64 m]])) (n + 1) (SB.box [.int .i64 (o + m1), .int .i64 (m - Tri.c t)])) (.cons rfl (.cons rfl (.cons rfl (.cons rfl (.cons rfl (.cons rfl (.cons rfl (.cons rfl (.cons rfl (.cons rfl (.cons rfl (.cons rfl (.cons rfl (.cons rfl (.cons rfl (.cons rfl (.nil rfl))))))))))))))))) rfl fun fr => ?_
            refine k_region ?_
            refine o_move rfl ?_
            refine o_move rfl ?_
            refine o_len rfl ty38 rfl (List.length_map _) ?_
            refine o_move rfl ?_
            refine o_len rfl ty38 rfl (List.length_map _) ?_
            refine o_slice3 .ro (fun h => by cases h) rfl ty38 cl3 rfl rfl (by simp) rfl rfl rfl (by simp) (by simp) ?_
            refine o_assign rfl ?_
            refine o_nil ?_
            refine ⟨kk - t.c.toNat, by omega, i + 1, es2, [(j : Int)], r, o + m1, m - t.c, by omega, by rw [← hp]; rfl, he2, hnx, ?_, ?_, .cons ?_ (.cons rfl (.cons rfl (.cons rfl (.nil rfl))))⟩
            · rw [hpl, hstep]; exact preO_cons [] _ _
            · show (X es2 ++ (e ++ [_, _])).set (n + 1) _ = _
              rw [hset]; rfl
            · show U.lst .ro 1 (List.drop 1 (List.take (m1 :: r).length (intsU (m1 :: r)))) = _
              rw [List.take_of_length_le (by simp)]; rfl
          | cons y p =>
            refine d_plain (o_add rfl rfl rfl (by unfold I64; omega) (o_nil rfl)) ?_
            refine d_plain (o_faddr rfl rfl fld80_1 (o_nil rfl)) ?_
            refine d_load rfl (o_load1 rfl rfl (hl1 _) sh3 rfl (o_nil rfl)) ?_
            refine d_plain (o_faddr rfl rfl fld73_0 (o_nil rfl)) ?_
            refine d_genA [(2, U.lst Kd.ro 1 (intsU (m1 :: r))), (3, U.box (n + 0) 0), (4, U.box (n + 1) 0), (6, accI (y :: p)), (9, .int .i64 (Prod.fst (↑j, c2))), (24, U.box (n + 0) 0), (25, U.box (n + 0) 0), (26, U.lst Kd.ro 3 (trisU (Shop.tools s))), (27, .int .i64 (Prod.fst (↑j, c2))), (28, U.eref [.int .i64 (Tri.a t), .int .i64 (Tri.b t), .int .i64 (Tri.c t)] 0), (29, U.eref [.int .i64 (Tri.a t), .int .i64 (Tri.b t), .int .i64 (Tri.c t)] 0), (30, U.agg [.int .i64 (Tri.a t), .int .i64 (Tri.b t)]), (31, U.lst Kd.ro 1 (intsU (m1 :: r))), (32, U.eref [.int .i64 m1] 0), (33, .int .i64 m1), (34, U.bool (Decidable.decide (Tri.a t ≤ m1) && Decidable.decide (m1 ≤ Tri.b t))), (35, U.bool !(Decidable.decide (Tri.a t ≤ m1) && Decidable.decide (m1 ≤ Tri.b t))), (42, .int .i64 (o + m1)), (44, .int .i64 m), (45, U.box (n + 0) 0)] [] (X es2 ++ (e ++ [SB.box (shopB s c wv kn fi ch B2), SB.box [.int .i64 o, .int .i64 m]])) (.cons rfl (.cons rfl (.cons rfl (.cons rfl (.cons rfl (.cons rfl (.cons rfl (.cons rfl (.cons rfl (.cons rfl (.cons rfl (.cons rfl (.cons rfl (.cons rfl (.cons rfl (.cons rfl (.cons rfl (.cons rfl (.cons rfl (.cons rfl (.nil rfl))))))))))))))))))))) rfl rfl fun fr => ?_
            refine d_plain (o_faddr rfl rfl fld27_0 (o_nil rfl)) ?_
            refine d_load rfl (o_load1 rfl rfl (hl0 _) sh22 rfl (o_nil rfl)) ?_
            refine d_plain (o_move rfl (o_nil rfl)) ?_
            refine d_plain (o_idx (u := (t).u) rfl ty22 rfl rfl (Int.natCast_nonneg _) (by simp [hq]) cl52 (o_nil rfl)) ?_
            refine d_plain (o_faddrR rfl rfl fld52_1 (o_nil rfl)) ?_
            refine d_load rfl (o_loadR1 rfl rfl sh3 rfl (o_nil rfl)) ?_
            refine d_plain (o_sub rfl rfl rfl (by unfold I64; omega) (o_nil rfl)) ?_
            refine d_plain (o_build rfl ze80 pl80 rfl rfl (o_nil rfl)) ?_
            refine d_plain (o_storeN rfl (hl1 _) sh80 rfl rfl rfl rfl rfl (o_nil rfl)) ?_
            refine d_nil ?_
            refine k_gen [(2, U.lst Kd.ro 1 (intsU (m1 :: r))), (3, U.box (n + 0) 0), (4, U.box (n + 1) 0), (6, accI (y :: p)), (9, .int .i64 (Prod.fst (↑j, c2))), (24, U.box (n + 0) 0), (25, U.box (n + 0) 0), (26, U.lst Kd.ro 3 (trisU (Shop.tools s))), (27, .int .i64 (Prod.fst (↑j, c2))), (28, U.eref [.int .i64 (Tri.a t), .int .i64 (Tri.b t), .int .i64 (Tri.c t)] 0), (29, U.eref [.int .i64 (Tri.a t), .int .i64 (Tri.b t), .int .i64 (Tri.c t)] 0), (30, U.agg [.int .i64 (Tri.a t), .int .i64 (Tri.b t)]), (31, U.lst Kd.ro 1 (intsU (m1 :: r))), (32, U.eref [.int .i64 m1] 0), (33, .int .i64 m1), (34, U.bool (Decidable.decide (Tri.a t ≤ m1) && Decidable.decide (m1 ≤ Tri.b t))), (35, U.bool !(Decidable.decide (Tri.a t ≤ m1) && Decidable.decide (m1 ≤ Tri.b t)))] (List.set (X es2 ++ (e ++ [SB.box (shopB s c wv kn fi ch B2), SB.box [.int .i64 o, .int .i64 m]])) (n + 1) (SB.box [.int .i64 (o + m1), .int .i64 (m - Tri.c t)])) (.cons rfl (.cons rfl (.cons rfl (.cons rfl (.cons rfl (.cons rfl (.cons rfl (.cons rfl (.cons rfl (.cons rfl (.cons rfl (.cons rfl (.cons rfl (.cons rfl (.cons rfl (.cons rfl (.cons rfl (.nil rfl)))))))))))))))))) rfl fun fr => ?_
            refine k_seq (k_region ?_)
            refine o_move rfl ?_
            refine o_move rfl ?_
            refine o_lit (es := [.int .i64 (Prod.fst (↑j, c2))]) rfl ty38 ze3 cl3 rfl rfl rfl rfl rfl rfl rfl rfl ?_
            refine o_appendS 6 rfl ap38_38 rfl rfl rfl (by simp) (by simp) (by simp [flatU, cellsU, oneU]) (by simp at *; omega) ?_
            refine o_assign rfl ?_
            refine o_nil ?_
            refine k_gen [(2, U.lst Kd.ro 1 (intsU (m1 :: r))), (3, U.box (n + 0) 0), (4, U.box (n + 1) 0), (6, U.lst Kd.own 1 (.int .i64 y :: List.append (List.map (fun n ↦ .int .i64 n) p) [.int .i64 (Prod.fst (↑j, c2))])), (24, U.box (n + 0) 0), (25, U.box (n + 0) 0), (26, U.lst Kd.ro 3 (trisU (Shop.tools s))), (27, .int .i64 (Prod.fst (↑j, c2))), (28, U.eref [.int .i64 (Tri.a t), .int .i64 (Tri.b t), .int .i64 (Tri.c t)] 0), (29, U.eref [.int .i64 (Tri.a t), .int .i64 (Tri.b t), .int .i64 (Tri.c t)] 0), (30, U.agg [.int .i64 (Tri.a t), .int .i64 (Tri.b t)]), (31, U.lst Kd.ro 1 (intsU (m1 :: r))), (32, U.eref [.int .i64 m1] 0), (33, .int .i64 m1), (34, U.bool (Decidable.decide (Tri.a t ≤ m1) && Decidable.decide (m1 ≤ Tri.b t))), (35, U.bool !(Decidable.decide (Tri.a t ≤ m1) && Decidable.decide (m1 ≤ Tri.b t)))] (List.set (X es2 ++ (e ++ [SB.box (shopB s c wv kn fi ch B2), SB.box [.int .i64 o, .int .i64 m]])) (n + 1) (SB.box [.int .i64 (o + m1), .int .i64 (m - Tri.c t)])) (.cons rfl (.cons rfl (.cons rfl (.cons rfl (.cons rfl (.cons rfl (.cons rfl (.cons rfl (.cons rfl (.cons rfl (.cons rfl (.cons rfl (.cons rfl (.cons rfl (.cons rfl (.cons rfl (.nil rfl))))))))))))))))) rfl fun fr => ?_
            refine k_region ?_
            refine o_move rfl ?_
            refine o_move rfl ?_
            refine o_len rfl ty38 rfl (List.length_map _) ?_
            refine o_move rfl ?_
            refine o_len rfl ty38 rfl (List.length_map _) ?_
            refine o_slice3 .ro (fun h => by cases h) rfl ty38 cl3 rfl rfl (by simp) rfl rfl rfl (by simp) (by simp) ?_
            refine o_assign rfl ?_
            refine o_nil ?_
            refine ⟨kk - t.c.toNat, by omega, i + 1, es2, (y :: p) ++ [(j : Int)], r, o + m1, m - t.c, by omega, by rw [List.length_append, hp]; rfl, he2, hnx, ?_, ?_, .cons ?_ (.cons rfl (.cons rfl (.cons (by rw [hacc]; rfl) (.nil rfl))))⟩
            · rw [hpl, hstep]; exact preO_cons _ _ _
            · show (X es2 ++ (e ++ [_, _])).set (n + 1) _ = _
              rw [hset]; rfl
            · show U.lst .ro 1 (List.drop 1 (List.take (m1 :: r).length (intsU (m1 :: r)))) = _
              rw [List.take_of_length_le (by simp)]; rfl
    · refine k_exit ?_
      refine k_seq ?_
      refine k_seq (k_region ?_)
      refine o_move rfl ?_
      refine o_len rfl ty38 rfl (List.length_map _) ?_
      refine o_gtr rfl rfl rfl ?_
      refine o_nil ?_
      refine k_cond rfl (fun h66 => ?_) (fun h66 => ?_)
      · refine k_seq (k_region ?_)
        refine o_assign rfl ?_
        refine o_assign rfl ?_
        refine o_assign rfl ?_
        refine o_nil ?_
        refine k_ret ?_
        refine ⟨.inr rfl, _, .cons _ _ _ _ (.tmp 6) (.cons _ _ _ _ (.tmp 7) (.cons _ _ _ _ (.tmp 8) .nil)), ?_⟩
        have hf : fineB s o = true := by have hh : (!(fineB s o)) = false := h14; simpa using hh
        have hlr := of_decide_eq_true h66
        obtain ⟨t1, t2, t3⟩ := hT es1 he1 [.box (shopB s c wv kn fi ch B2), .box [.int .i64 o, .int .i64 m]]
        have hres : playR s ms off metal = none := by
          rw [hpl]
          cases r with
          | nil => exact absurd hlr (by decide)
          | cons m1 r => unfold playR; rw [if_pos hf]; rfl
        exact ⟨playU none, .refl _, (nb_play _).bd _, t1, t2, by rw [hres]; rfl, es1, he1, t3⟩
      · refine k_skip ?_
        refine k_seq ?_
        refine k_draw [.plain, .plain, .plain, .plain, .plain, .plain] (by kernel_rfl) (by kernel_rfl) (by kernel_rfl) ?_
        refine d_plain (o_move rfl (o_nil rfl)) ?_
        refine d_plain (o_faddr rfl rfl fld80_0 (o_nil rfl)) ?_
        refine d_plain (o_load1 rfl rfl (hl1 _) sh3 rfl (o_nil rfl)) ?_
        refine d_plain (o_assign rfl (o_nil rfl)) ?_
        refine d_plain (o_assign rfl (o_nil rfl)) ?_
        refine d_plain (o_assign rfl (o_nil rfl)) ?_
        refine d_nil ?_
        refine k_ret ?_
        refine ⟨.inr rfl, _, .cons _ _ _ _ (.tmp 6) (.cons _ _ _ _ (.tmp 7) (.cons _ _ _ _ (.tmp 8) .nil)), ?_⟩
        have hf : fineB s o = true := by have hh : (!(fineB s o)) = false := h14; simpa using hh
        have hlr := of_decide_eq_false h66
        obtain ⟨t1, t2, t3⟩ := hT es1 he1 [.box (shopB s c wv kn fi ch B2), .box [.int .i64 o, .int .i64 m]]
        have hres : playR s ms off metal = some (p, o) := by
          rw [hpl]
          cases r with
          | nil => unfold playR; rw [if_pos hf]; show some (p ++ [], o) = _; rw [List.append_nil]
          | cons m1 r => exact absurd (by rw [List.length_cons]; omega) hlr
        exact ⟨playU (some (p, o)), .tup _ _ (.lcons _ _ _ _ (uw_dgI p) (.lrefl _)), (nb_play _).bd _, t1, t2, by rw [hres]; rfl, es1, he1, t3⟩
  · exact ⟨0, es, [], ms, off, metal, by have := hw.2.1; omega, rfl, he, hw, (preO_nil _).symm, by show ((X es ++ e) ++ [_]) ++ [_] = _; rw [List.append_assoc, List.append_assoc]; rfl, .cons rfl (.cons (by show U.box (X es ++ e).length 0 = _; rw [hlen]; rfl) (.cons (by show U.box ((X es ++ e) ++ [_]).length 0 = _; rw [List.length_append, hlen]; rfl) (.cons rfl (.nil rfl))))⟩
noncomputable def b30 : Code := (Try.f30.body).getD .skip
theorem body30 : bodyOf Try.prog 30 = some (67, b30, [.tmp 8, .tmp 9, .tmp 10]) := by kernel_rfl
theorem pure30 : pureFn Try.prog 30 = true := by kernel_rfl
def inB (q : Tri) (off : Int) : Bool := decide (q.a ≤ off) && decide (off ≤ q.b)
def playT (x : Option (List Int × Int)) : U := match x with
  | some (l, e) => .tup [.lst .ro 1 (intsU l), .int .i64 e, .int .i64 0]
  | none => .tup [.lst .ro 1 (intsU []), .int .i64 0, .int .i64 32]
def playA (s : Shop) (q : Tri) (off : Int) (ms : List Int) : U := if (cho s true off q.c).2 = 31 then .tup [.lst .ro 1 (intsU []), .int .i64 0, .int .i64 4] else playT (playR s ms off q.c)
theorem dat_nil (e f : Int) : DatR (.tup [.lst .ro 1 (intsU []), .int .i64 e, .int .i64 f]) := .inr ⟨_, rfl, dat_l3 (dat_ints 5 .ro (fun h => by cases h) 1 _) (.int _ _ _) (.int _ _ _)⟩
theorem dat_play (s : Shop) (q : Tri) (off : Int) (ms : List Int) : DatR (playA s q off ms) := by
  unfold playA; split
  · exact dat_nil _ _
  · unfold playT; split
    · exact .inr ⟨_, rfl, dat_l3 (dat_ints 5 .ro (fun h => by cases h) 1 _) (.int _ _ _) (.int _ _ _)⟩
    · exact dat_nil _ _
theorem dat_l4 {k : Nat} {a b c d : U} (h : Dat k a) (h2 : Dat k b) (h3 : Dat k c) (h4 : Dat k d) : ∀ v ∈ [a, b, c, d], Dat k v := fun v hv => by
  simp only [List.mem_cons, List.not_mem_nil, or_false] at hv
  rcases hv with rfl | rfl | rfl | rfl <;> assumption
theorem uw_nil3 (e f : Int) : UW (.u (.tup [.lst .full 0 [], .int .i64 e, .int .i64 f])) (.u (.tup [.lst .ro 1 (intsU []), .int .i64 e, .int .i64 f])) := .tup _ _ (.lcons _ _ _ _ (.nil _ _ _) (.lrefl _))
set_option maxHeartbeats 8000000 in
theorem ret30 (hi : Off is) {s : Shop} (hk : SOk s) {i : Nat} {q : Tri} (hq : s.keys[i]? = some q) {off : Int} (hin : inB q off = true) (ms : List Int) : RetP Try.prog is orc 30 [s.u, .int .i64 i, .int .i64 off, .lst .ro 1 (intsU ms)] (playA s q off ms) := by
  have hil := (List.getElem?_eq_some_iff.1 hq).1
  have hqb := hk.keys q (List.mem_of_getElem? hq)
  have q59 := ret59 (orc := orc) hi hil
  have q64 := ret64 (orc := orc) hi q.a q.b off
  rw [show (decide (q.a ≤ off) && decide (off ≤ q.b)) = true from hin] at q64
  have hoq : q.a ≤ off ∧ off ≤ q.b := by unfold inB at hin; simpa using hin
  have ho : offB off = true := by unfold offB; simp; omega
  have hbe : Bh 20 [SB.box [.int .i64 off, .int .i64 q.c]] := fun x hx => by
    simp only [List.mem_cons, List.not_mem_nil, or_false] at hx
    subst hx
    exact fun u hu => (nb_two _ _ u hu).bd _
  refine ret_of body30 pure30 (hi 30 (by decide)) rfl rfl (dat_l4 (dat_shop s 5) (.int _ _ _) (.int _ _ _) (dat_ints 6 .ro (fun h => by cases h) 1 ms)) (dat_play s q off ms) ?_
  refine k_seq (k_region ?_)
  refine o_box rfl rfl ?_
  refine o_assign rfl ?_
  refine o_assign rfl ?_
  refine o_assign rfl ?_
  refine o_nil ?_
  refine k_gen [(1, .int .i64 ↑i), (2, .int .i64 off), (3, U.lst Kd.ro 1 (intsU ms)), (4, U.box 0 0)] ([SB.box [U.lst Kd.ro 3 (trisU (Shop.tools s)), .int .i64 (Shop.flo s), .int .i64 (Shop.fhi s), U.lst Kd.ro 3 (trisU (Shop.keys s))]]) (.cons rfl (.cons rfl (.cons rfl (.cons rfl (.nil rfl))))) rfl fun fr => ?_
  refine k_seq ?_
  refine k_draw [.read true, .read true, .plain, .read false, .plain, .plain, .read true, .plain, .plain, .plain, .read true, .plain, .read false, .plain, .quiet, .plain, .plain, .plain, .pre, .plain, .plain] (by kernel_rfl) (by kernel_rfl) (by kernel_rfl) ?_
  refine d_load rfl (o_loadN rfl rfl rfl sh27 rfl (o_nil rfl)) ?_
  refine d_load rfl (o_loadN rfl rfl rfl sh27 rfl (o_nil rfl)) ?_
  refine d_plain (o_move rfl (o_nil rfl)) ?_
  refine d_callR rfl (q59) (.bool _) (.lrefl _) ?_
  refine d_plain (o_move rfl (o_nil rfl)) ?_
  refine d_gD rfl rfl rfl rfl rfl ?_
  refine d_plain (o_faddr rfl rfl fld27_2 (o_nil rfl)) ?_
  refine d_gD rfl rfl rfl rfl rfl ?_
  refine d_load rfl (o_load1 rfl rfl rfl sh25 rfl (o_nil rfl)) ?_
  refine d_gD rfl rfl rfl rfl rfl ?_
  refine d_plain (o_move rfl (o_nil rfl)) ?_
  refine d_gD rfl rfl rfl rfl rfl ?_
  refine d_plain (o_idx (u := (q).u) rfl ty25 rfl rfl (Int.natCast_nonneg _) (by simp [hq]) cl64 (o_nil rfl)) ?_
  refine d_genA [(1, .int .i64 ↑i), (2, .int .i64 off), (3, U.lst Kd.ro 1 (intsU ms)), (15, U.agg [U.lst Kd.ro 3 (trisU (Shop.tools s)), .int .i64 (Shop.flo s), .int .i64 (Shop.fhi s), U.lst Kd.ro 3 (trisU (Shop.keys s))]), (19, U.bool Bool.true), (23, U.eref [.int .i64 (Tri.a q), .int .i64 (Tri.b q), .int .i64 (Tri.c q)] 0)] [] ([SB.box [U.lst Kd.ro 3 (trisU (Shop.tools s)), .int .i64 (Shop.flo s), .int .i64 (Shop.fhi s), U.lst Kd.ro 3 (trisU (Shop.keys s))]]) (.cons rfl (.cons rfl (.cons rfl (.cons rfl (.cons rfl (.cons rfl (.nil rfl))))))) rfl rfl fun fr => ?_
  refine d_gD rfl rfl rfl rfl rfl ?_
  refine d_genA [(1, .int .i64 ↑i), (2, .int .i64 off), (3, U.lst Kd.ro 1 (intsU ms)), (15, U.agg [U.lst Kd.ro 3 (trisU (Shop.tools s)), .int .i64 (Shop.flo s), .int .i64 (Shop.fhi s), U.lst Kd.ro 3 (trisU (Shop.keys s))]), (19, U.bool Bool.true), (23, U.eref [.int .i64 (Tri.a q), .int .i64 (Tri.b q), .int .i64 (Tri.c q)] 0)] [] ([SB.box [U.lst Kd.ro 3 (trisU (Shop.tools s)), .int .i64 (Shop.flo s), .int .i64 (Shop.fhi s), U.lst Kd.ro 3 (trisU (Shop.keys s))]]) (.cons rfl (.cons rfl (.cons rfl (.cons rfl (.cons rfl (.cons rfl (.nil rfl))))))) rfl rfl fun fr => ?_
  refine d_plain (o_faddrR rfl rfl fld64_0 (o_nil rfl)) ?_
  refine d_gD rfl rfl rfl rfl rfl ?_
  refine d_load rfl (o_loadRN rfl rfl sh24 rfl (o_nil rfl)) ?_
  refine d_gD rfl rfl rfl rfl rfl ?_
  refine d_plain (o_move rfl (o_nil rfl)) ?_
  refine d_gD rfl rfl rfl rfl rfl ?_
  refine d_callR rfl (q64) (.bool _) (.lrefl _) ?_
  refine d_plain (o_pickT rfl rfl rfl (o_nil rfl)) ?_
  refine askD hi hk rfl rfl (.lrefl _) ?_
  refine d_plain (o_move rfl (o_nil rfl)) ?_
  refine d_plain (o_extract rfl rfl rfl (o_nil rfl)) ?_
  refine d_plain (o_extract rfl rfl rfl (o_nil rfl)) ?_
  refine d_genA [(1, .int .i64 ↑i), (2, .int .i64 off), (3, U.lst Kd.ro 1 (intsU ms)), (30, U.agg (shopC s 7 13)), (31, .int .i64 0)] [] (nx0 s []) (.cons rfl (.cons rfl (.cons rfl (.cons rfl (.cons rfl (.nil rfl)))))) rfl rfl fun fr => ?_
  refine d_pre rfl ze73 ?_
  refine d_plain (o_storeN rfl rfl sh73 rfl rfl rfl rfl rfl (o_nil rfl)) ?_
  refine d_plain (o_assign rfl (o_nil rfl)) ?_
  refine d_nil ?_
  refine k_gen [(1, .int .i64 ↑i), (2, .int .i64 off), (3, U.lst Kd.ro 1 (intsU ms)), (10, .int .i64 0), (11, U.box 19 0)] ([SB.box (Shop.cs s), SB.box (Shop.cs s), SB.box (shopC s 7 13), SB.box (Shop.cs s), SB.box (shopC s (3 + 4) (3 + 10)), SB.box (shopC s (3 + 4) (3 + 10)), SB.box waysC, SB.box (Shop.cs6 s), SB.box (wayC Bool.true), SB.map [], SB.box [U.mp 9], SB.box [U.fn 75 [U.agg (Shop.cs6 s)] []], SB.box [fn82 (3 + 4)], SB.box (Shop.cs6 s), SB.box (wayC Bool.false), SB.map [], SB.box [U.mp 15], SB.box [U.fn 75 [U.agg (Shop.cs6 s)] []], SB.box [fn82 (3 + 10)], SB.box [U.lst Kd.ro 3 (trisU (Shop.tools s)), .int .i64 (Shop.flo s), .int .i64 (Shop.fhi s), U.lst Kd.ro 3 (trisU (Shop.keys s)), U.fn 82 [] [U.box 11 0, U.box 10 0, U.box 7 0, U.box 12 0, U.box 8 0], U.fn 82 [] [U.box 17 0, U.box 16 0, U.box 13 0, U.box 18 0, U.box 14 0]]]) (.cons rfl (.cons rfl (.cons rfl (.cons rfl (.cons rfl (.nil rfl)))))) rfl fun fr => ?_
  refine k_seq ?_
  refine k_seq (k_region ?_)
  refine o_move rfl ?_
  refine o_neq rfl rfl rfl ?_
  refine o_nil ?_
  refine k_cF rfl rfl ?_
  refine k_skip ?_
  refine k_seq (k_region ?_)
  refine o_move rfl ?_
  refine o_faddr rfl rfl fld73_0 ?_
  refine o_faddr rfl rfl fld27_2 ?_
  refine o_load1 rfl rfl rfl sh25 rfl ?_
  refine o_move rfl ?_
  refine o_idx (u := (q).u) rfl ty25 rfl rfl (Int.natCast_nonneg _) (by simp [hq]) cl64 ?_
  refine o_faddrR rfl rfl fld64_1 ?_
  refine o_loadR1 rfl rfl sh3 rfl ?_
  refine o_build rfl ze80 pl80 rfl rfl ?_
  refine o_alloc rfl ze80 ?_
  refine o_storeN rfl rfl sh80 rfl rfl rfl rfl rfl ?_
  refine o_nil ?_
  refine k_gen [(3, U.lst Kd.ro 1 (intsU ms)), (11, U.box 19 0), (12, U.box 20 0)] ([SB.box (Shop.cs s), SB.box (Shop.cs s), SB.box (shopC s 7 13), SB.box (Shop.cs s), SB.box (shopC s (3 + 4) (3 + 10)), SB.box (shopC s (3 + 4) (3 + 10)), SB.box waysC, SB.box (Shop.cs6 s), SB.box (wayC Bool.true), SB.map [], SB.box [U.mp 9], SB.box [U.fn 75 [U.agg (Shop.cs6 s)] []], SB.box [fn82 (3 + 4)], SB.box (Shop.cs6 s), SB.box (wayC Bool.false), SB.map [], SB.box [U.mp 15], SB.box [U.fn 75 [U.agg (Shop.cs6 s)] []], SB.box [fn82 (3 + 10)], SB.box [U.lst Kd.ro 3 (trisU (Shop.tools s)), .int .i64 (Shop.flo s), .int .i64 (Shop.fhi s), U.lst Kd.ro 3 (trisU (Shop.keys s)), U.fn 82 [] [U.box 11 0, U.box 10 0, U.box 7 0, U.box 12 0, U.box 8 0], U.fn 82 [] [U.box 17 0, U.box 16 0, U.box 13 0, U.box 18 0, U.box 14 0]], SB.box [.int .i64 off, .int .i64 (Tri.c q)]]) (.cons rfl (.cons rfl (.cons rfl (.nil rfl)))) rfl fun fr => ?_
  refine k_gen [(3, .lst .ro 1 (intsU ms)), (11, .box 19 0), (12, .box 20 0)] (nxX s [] ++ [.box [.int .i64 off, .int .i64 q.c]]) (.cons rfl (.cons rfl (.cons rfl (.nil rfl)))) rfl fun fr => ?_
  refine k_seq ?_
  refine k_seq (k_region ?_)
  refine o_faddr rfl rfl fld73_1 ?_
  refine o_load1 rfl rfl rfl sh71 rfl ?_
  refine o_loadN rfl rfl rfl sh80 rfl ?_
  refine o_callV rfl rfl (wpc82 (orc := orc) hi hk (sr_nx s) 31 q.c off (by omega) (by omega) (by omega) [] _ (Memo.nil _ _) hbe) (.lrefl _) (fun u st1 hM => ?_)
  obtain ⟨rfl, es, he, rfl⟩ := hM
  by_cases h31 : (cho s true off q.c).2 = 31
  · rw [show playA s q off ms = .tup [.lst .ro 1 (intsU []), .int .i64 0, .int .i64 4] from if_pos h31]
    have k49 : decide ((cho s true off q.c).2 = 31) = true := decide_eq_true h31
    refine o_field1 rfl rfl fld78_1 sh3 rfl ?_
    refine o_eql rfl rfl rfl ?_
    refine o_nil ?_
    refine k_cT rfl (by assumption) ?_
    refine k_seq (k_region ?_)
    refine o_assign rfl ?_
    refine o_assign rfl ?_
    refine o_assign rfl ?_
    refine o_nil ?_
    refine k_ret ?_
    refine ⟨.inr rfl, _, .cons _ _ _ _ (.tmp 8) (.cons _ _ _ _ (.tmp 9) (.cons _ _ _ _ (.tmp 10) .nil)), ?_⟩
    exact uw_nil3 _ _
  · rw [show playA s q off ms = playT (playR s ms off q.c) from if_neg h31]
    have k49 : decide ((cho s true off q.c).2 = 31) = false := decide_eq_false h31
    have hway : OnWay s off q.c 0 := ⟨ho, by omega, by omega, h31⟩
    refine o_field1 rfl rfl fld78_1 sh3 rfl ?_
    refine o_eql rfl rfl rfl ?_
    refine o_nil ?_
    refine k_cF rfl (by assumption) ?_
    refine k_skip ?_
    refine k_seq (k_region ?_)
    refine o_loadN rfl rfl rfl sh73 rfl ?_
    refine o_loadN rfl rfl rfl sh80 rfl ?_
    refine o_move rfl ?_
    refine o_callW rfl (wpc65 (orc := orc) hi hk (sr_nx s) (B2 := [.box 17 0, .box 16 0, .box 13 0, .box 18 0, .box 14 0]) (bd_82 (k := 20) (n := 13) (by decide)) es _ he hbe hway ms) (.lrefl _) (fun u st1 hM => ?_)
    obtain ⟨rfl, es2, he2, rfl⟩ := hM
    cases playR s ms off q.c with
    | none =>
      refine o_move rfl ?_
      refine o_extract rfl rfl rfl ?_
      refine o_extract rfl rfl rfl ?_
      refine o_extract rfl rfl rfl ?_
      refine o_assign rfl ?_
      refine o_assign rfl ?_
      refine o_assign rfl ?_
      refine o_nil ?_
      refine k_seq ?_
      refine k_seq (k_region ?_)
      refine o_move rfl ?_
      refine o_not rfl rfl ?_
      refine o_nil ?_
      refine k_cT rfl rfl ?_
      refine k_seq (k_region ?_)
      refine o_assign rfl ?_
      refine o_assign rfl ?_
      refine o_assign rfl ?_
      refine o_nil ?_
      refine k_ret ?_
      refine ⟨.inr rfl, _, .cons _ _ _ _ (.tmp 8) (.cons _ _ _ _ (.tmp 9) (.cons _ _ _ _ (.tmp 10) .nil)), ?_⟩
      exact uw_nil3 _ _
    | some x =>
      obtain ⟨l, e⟩ := x
      refine o_move rfl ?_
      refine o_extract rfl rfl rfl ?_
      refine o_extract rfl rfl rfl ?_
      refine o_extract rfl rfl rfl ?_
      refine o_assign rfl ?_
      refine o_assign rfl ?_
      refine o_assign rfl ?_
      refine o_nil ?_
      refine k_seq ?_
      refine k_seq (k_region ?_)
      refine o_move rfl ?_
      refine o_not rfl rfl ?_
      refine o_nil ?_
      refine k_cF rfl rfl ?_
      refine k_skip ?_
      refine k_seq (k_region ?_)
      refine o_move rfl ?_
      refine o_move rfl ?_
      refine o_len rfl ty38 rfl (List.length_map _) ?_
      refine o_move rfl ?_
      refine o_len rfl ty38 rfl (List.length_map _) ?_
      refine o_slice0 rfl ty38 cl3 rfl (by simp) rfl rfl (by simp) ?_
      refine o_move rfl ?_
      refine o_assign rfl ?_
      refine o_assign rfl ?_
      refine o_assign rfl ?_
      refine o_nil ?_
      refine k_ret ?_
      refine ⟨.inr rfl, _, .cons _ _ _ _ (.tmp 8) (.cons _ _ _ _ (.tmp 9) (.cons _ _ _ _ (.tmp 10) .nil)), ?_⟩
      show UW (.u (.tup [.lst .full 1 ((intsU l).take l.length), .int .i64 e, .int .i64 0])) _
      rw [List.take_of_length_le (by simp)]
      exact .tup _ _ (.lcons _ _ _ _ (.ro _ _ _) (.lrefl _))
end Go.Proofs.Ytdahbimllmapkaa.raspPlayed
