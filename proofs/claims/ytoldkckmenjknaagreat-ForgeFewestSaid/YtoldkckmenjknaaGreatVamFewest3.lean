/- forge's functions, the specification's and the law's, by the logic of trees: what each gives back for all that it may be given. -/
import Derived.Test.YtoldkckmenjknaaGreatVamFewest2
namespace Go.Proofs.YtoldkckmenjknaaGreat.forgeFewest
open Vam
set_option linter.unusedVariables false
set_option linter.unusedSimpArgs false
set_option linter.constructorNameAsVariable false
variable {is : FuncId → Bool} {orc : Known}
set_option maxHeartbeats 4000000 in
theorem wpc78 (L : Qd) (many : Int) (st : List SB) : WpC Tryz.prog is orc 78 [L.u, .int .i64 many] st fun u st' => u = .fn 90 [] [.box st.length 0, .box (st.length + 1) 0] ∧ st' = st ++ [.box L.cs, .box [.int .i64 many]] := by
  refine wpc_of body78 pure78 rfl rfl ?_
  refine k_seq ?_
  refine k_region ?_
  refine o_box rfl rfl ?_
  refine o_box rfl rfl ?_
  refine o_assign rfl ?_
  refine o_nil ?_
  refine k_gen [(2, .box st.length 0), (3, .box (st.length + 1) 0)] (st ++ [.box L.cs, .box [.int .i64 many]]) (.cons rfl (.cons (by show U.box (st ++ [SB.box _]).length 0 = _; simp) (.nil rfl))) (by show (st ++ [_]) ++ [_] = _; rw [List.append_assoc]; rfl) fun fr => ?_
  refine k_seq ?_
  refine k_region ?_
  refine o_func rfl ?_
  refine o_assign rfl ?_
  refine o_nil ?_
  refine k_ret ?_
  refine ⟨.inr rfl, _, .cons _ _ _ _ (.tmp 4) .nil, ?_⟩
  exact ⟨_, .refl _, rfl, rfl⟩
structure SeenM0 (L : Qd) (many : Int) (m bi ci : Nat) (Z : List Qd → List SB) (DZ : List SB) : Prop where
  len : ∀ l, (Z l).length = m
  lenD : DZ.length = m
  bd : ∀ l, ∀ x ∈ Z l, BdS m x
  bdD : ∀ x ∈ DZ, BdS m x
  bb : ∀ l, (Z l)[bi]? = some (.box L.cs)
  bc : ∀ l, (Z l)[ci]? = some (.box [.int .i64 many])
  lt : bi < m
abbrev tl83 (m bi : Nat) (q : Lq) (lp : Lp) : List SB := [.loop q lp, .box [.yld m], .box [.fn 91 [] [.box (m + 1) 0, .box bi 0, .box (m + 2) 0]]]
abbrev X83 (m bi : Nat) (lp : Lp) (Z : List Qd → List SB) (l : List Qd) : List SB := Z l ++ tl83 m bi .ready lp
abbrev D83 (m bi : Nat) (ex : Ex) (lp : Lp) (DZ : List SB) : List SB := DZ ++ tl83 m bi (.done ex) lp
variable {L : Qd} {many : Int} {m bi ci : Nat} {lp : Lp} {stop : Qd → Bool} {Z : List Qd → List SB} {DZ : List SB} {ex : Ex}
theorem bd_tl83 (hlt : bi < m) (hlp : ∀ i, Bd m (lp.fr i)) (q : Lq) : ∀ x ∈ tl83 m bi q lp, BdS (m + 3) x := fun x hx => by
  simp only [List.mem_cons, List.not_mem_nil, or_false] at hx
  rcases hx with rfl | rfl | rfl
  · exact fun i => Bd.mono (hlp i) (by omega)
  · intro c hc
    rcases List.mem_singleton.1 hc with rfl; exact Bd.yld (by omega)
  · intro c hc
    rcases List.mem_singleton.1 hc with rfl
    refine Bd.fn (fun u hu => by cases hu) fun u hu => ?_
    simp only [List.mem_cons, List.not_mem_nil, or_false] at hu
    rcases hu with rfl | rfl | rfl <;> exact Bd.box (by omega)
theorem SeenM0.seen (h : SeenM0 L many m bi ci Z DZ) (hlp : ∀ i, Bd m (lp.fr i)) (own : ∀ i, NoOwn (lp.fr i)) (ps : ∃ p, lp.ps = [p] ∧ Nat.blt p 1024 = true)
    (run : ∀ (is : FuncId → Bool) (orc : Known), Off is → ∀ l q e, QOk q → Ext e → WpY Tryz.prog is orc m lp [q.u] (X83 m bi lp Z l ++ e) fun u st' =>
      (stop q = false ∧ u = .bool true ∧ ∃ e', Ext e' ∧ st' = X83 m bi lp Z (l ++ [q]) ++ (e ++ e')) ∨ (stop q = true ∧ u = .bool false ∧ ∃ e', Ext e' ∧ st' = D83 m bi ex lp DZ ++ (e ++ e'))) :
    SeenM L (m + 3) (m + 1) bi (m + 2) m lp stop (X83 m bi lp Z) (D83 m bi ex lp DZ) := by
  refine ⟨fun l => by simp [h.len], by simp [h.lenD], fun l x hx => ?_, fun x hx => ?_, fun l => ?_, fun l => at_pre (h.bb l), fun l => ?_, fun l => ?_, own, ps, run⟩
  · rcases List.mem_append.1 hx with hx | hx
    · exact BdS.mono (h.bd l x hx) (by omega)
    · exact bd_tl83 h.lt hlp _ x hx
  · rcases List.mem_append.1 hx with hx | hx
    · exact BdS.mono (h.bdD x hx) (by omega)
    · exact bd_tl83 h.lt hlp _ x hx
  · show (Z l ++ _)[m + 1]? = _
    rw [List.getElem?_append_right (by rw [h.len]; omega), h.len]; simp
  · show (Z l ++ _)[m + 2]? = _
    rw [List.getElem?_append_right (by rw [h.len]; omega), h.len]; simp
  · show (Z l ++ _)[m]? = _
    rw [List.getElem?_append_right (by rw [h.len]; omega), h.len]; simp
theorem zQ_ok : QOk zQ := ⟨by decide, by decide, by decide, by decide⟩
def melts (L : Qd) (many : Int) : List Qd := lvM L 4 0 zQ many
set_option maxHeartbeats 4000000 in
theorem wpc90 (hi : Off is) (hL : QOk L) (hmany : 0 ≤ many ∧ many ≤ 24) (h : SeenM0 L many m bi ci Z DZ) (hs : SeenM L (m + 3) (m + 1) bi (m + 2) m lp stop (X83 m bi lp Z) (D83 m bi ex lp DZ)) (hlp : ∀ i, Bd m (lp.fr i)) :
    WpC Tryz.prog is orc 90 [.yld m, .box bi 0, .box ci 0] (Z [] ++ [.loop .ready lp]) fun _ st' =>
      ((melts L many).any stop = false ∧ st' = Z (melts L many) ++ [.loop .ready lp]) ∨ ((melts L many).any stop = true ∧ st' = DZ ++ [.loop (.done ex) lp]) := by
  have h0 := h.len []
  have h1 := h.len (melts L many)
  have hD := h.lenD
  refine wpc_cut body90 pure90 rfl rfl ?_
  refine k_seq ?_
  refine k_region ?_
  refine o_box rfl rfl ?_
  refine o_nil ?_
  refine k_gen [(1, .box bi 0), (2, .box ci 0), (3, .box (m + 1) 0)] (Z [] ++ [.loop .ready lp, .box [.yld m]]) (.cons rfl (.cons rfl (.cons (by show U.box (Z [] ++ [SB.loop .ready lp]).length 0 = _; simp [h0]) (.nil rfl)))) (by show (Z [] ++ [SB.loop .ready lp]) ++ [_] = _; rw [List.append_assoc]; rfl) fun fr => ?_
  refine k_seq ?_
  refine k_region ?_
  refine o_alloc rfl ze130 ?_
  refine o_nil ?_
  refine k_gen [(1, .box bi 0), (2, .box ci 0), (3, .box (m + 1) 0), (4, .box (m + 2) 0)] ((Z [] ++ [.loop .ready lp, .box [.yld m]]) ++ [.box [.nilf]]) (.cons rfl (.cons rfl (.cons rfl (.cons (by show U.box (Z [] ++ [SB.loop .ready lp, .box [.yld m]]).length 0 = _; simp [h0]) (.nil rfl))))) rfl fun fr => ?_
  have e2 : (Z [] ++ [SB.loop .ready lp, .box [.yld m]]).length = m + 2 := by simp [h0]
  refine k_seq ?_
  refine k_region ?_
  refine o_func rfl ?_
  refine o_store1 rfl (cs := [.nilf]) (by show ((Z [] ++ [SB.loop .ready lp, .box [.yld m]]) ++ [_])[m + 2]? = _; rw [← e2]; exact at_new _ _) sh130 rfl rfl ?_
  refine o_nil ?_
  refine k_gen [(1, .box bi 0), (2, .box ci 0), (4, .box (m + 2) 0)] (X83 m bi lp Z [] ++ []) (.cons rfl (.cons rfl (.cons rfl (.nil rfl)))) (by
    show ((Z [] ++ [SB.loop .ready lp, .box [.yld m]]) ++ [SB.box [.nilf]]).set (m + 2) (SB.box [.fn 91 [] [.box (m + 1) 0, .box bi 0, .box (m + 2) 0]]) = _
    rw [← e2, List.set_append_right _ _ (Nat.le_refl _), Nat.sub_self, List.append_assoc, List.append_nil, e2]; rfl) fun fr => ?_
  refine k_region ?_
  refine o_load1 rfl rfl (at_pre (hs.bf [])) sh130 rfl ?_
  refine o_build (cs := zQ.cs) rfl ze57 pl57 rfl rfl ?_
  refine o_load1 rfl rfl (at_pre (at_pre (h.bc []))) sh3 rfl ?_
  refine o_callV rfl rfl (wpc91 hi hs hL 4 0 zQ many [] [] rfl zQ_ok hmany .nil) (.lrefl _) (fun u st1 hM => ?_)
  rcases hM with ⟨hno, rfl, rfl⟩ | ⟨hno, rfl, rfl⟩
  · refine o_nil ?_
    refine ⟨.inl rfl, _, .nil, ?_⟩
    have et : (X83 m bi lp Z ([] ++ melts L many) ++ []).take (Z [] ++ [SB.loop .ready lp]).length = Z (melts L many) ++ [.loop .ready lp] := by
      rw [List.append_nil, List.nil_append, show X83 m bi lp Z (melts L many) = (Z (melts L many) ++ [SB.loop .ready lp]) ++ [.box [.yld m], .box [.fn 91 [] [.box (m + 1) 0, .box bi 0, .box (m + 2) 0]]] by rw [List.append_assoc]; rfl, List.take_left' (by simp [h0, h1])]
    refine ⟨_, .refl _, Bd.tup (fun c hc => by cases hc), ?_, ?_, .inl ⟨hno, et⟩⟩
    · show (Z [] ++ [SB.loop .ready lp]).length ≤ (X83 m bi lp Z ([] ++ melts L many) ++ []).length
      simp [h0, h1]
    · show ∀ x ∈ (X83 m bi lp Z ([] ++ melts L many) ++ []).take (Z [] ++ [SB.loop .ready lp]).length, BdS (Z [] ++ [SB.loop .ready lp]).length x
      rw [et]
      intro x hx
      rw [show (Z [] ++ [SB.loop .ready lp]).length = m + 1 by simp [h0]]
      rcases List.mem_append.1 hx with hx | hx
      · exact BdS.mono (h.bd _ x hx) (by omega)
      · rcases List.mem_singleton.1 hx with rfl
        exact fun i => Bd.mono (hlp i) (by omega)
  · refine o_nil ?_
    refine ⟨.inl rfl, _, .nil, ?_⟩
    have et : (D83 m bi ex lp DZ ++ []).take (Z [] ++ [SB.loop .ready lp]).length = DZ ++ [.loop (.done ex) lp] := by
      rw [List.append_nil, show D83 m bi ex lp DZ = (DZ ++ [SB.loop (.done ex) lp]) ++ [.box [.yld m], .box [.fn 91 [] [.box (m + 1) 0, .box bi 0, .box (m + 2) 0]]] by rw [List.append_assoc]; rfl, List.take_left' (by simp [h0, hD])]
    refine ⟨_, .refl _, Bd.tup (fun c hc => by cases hc), ?_, ?_, .inr ⟨hno, et⟩⟩
    · show (Z [] ++ [SB.loop .ready lp]).length ≤ (D83 m bi ex lp DZ ++ []).length
      simp [h0, hD]
    · show ∀ x ∈ (D83 m bi ex lp DZ ++ []).take (Z [] ++ [SB.loop .ready lp]).length, BdS (Z [] ++ [SB.loop .ready lp]).length x
      rw [et]
      intro x hx
      rw [show (Z [] ++ [SB.loop .ready lp]).length = m + 1 by simp [h0]]
      rcases List.mem_append.1 hx with hx | hx
      · exact BdS.mono (h.bdD x hx) (by omega)
      · rcases List.mem_singleton.1 hx with rfl
        exact fun i => Bd.mono (hlp i) (by omega)
end Go.Proofs.YtoldkckmenjknaaGreat.forgeFewest
