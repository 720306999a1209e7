/- forge's functions, the specification's and the law's, by the logic of trees: what each gives back for all that it may be given. -/
import Derived.Test.YtoldkckmenjknaaGreatVamFewest4
namespace Go.Proofs.YtoldkckmenjknaaGreat.forgeFewest
open Vam
set_option linter.unusedVariables false
set_option linter.unusedSimpArgs false
set_option linter.constructorNameAsVariable false
variable {is : FuncId → Bool} {orc : Known}
theorem lookU_all {p : U → Prop} {l : List (Nat × U)} {d : U} (h : ∀ x ∈ l, p x.2) (hd : p d) (i : Nat) : p (lookU l i d) := by
  induction l with
  | nil => exact hd
  | cons x l ih =>
    obtain ⟨j, u⟩ := x
    show p (Vam.cond (Nat.beq i j) u (lookU l i d))
    cases Nat.beq i j with
    | true => exact h _ List.mem_cons_self
    | false => exact ih fun y hy => h y (List.mem_cons_of_mem _ hy)
theorem bd_bkN (b : Bk) (n m : Nat) : ∀ c ∈ bkN b n, Bd m c := by
  intro c hc
  simp only [List.mem_cons, List.not_mem_nil, or_false] at hc
  rcases hc with rfl | rfl | rfl | rfl | rfl | rfl | rfl | rfl | rfl | rfl | rfl | rfl | rfl | rfl | rfl | rfl | rfl | rfl | rfl <;> first | exact Bd.int _ _ _ | exact (dat_tris _ _ (fun h => by cases h) 0).bd _ | exact (dat_twos _ _ (fun h => by cases h) 0).bd _ | exact Bd.lst fun c hc => by cases hc
theorem bd_qd (q : Qd) (m : Nat) : ∀ c ∈ q.cs, Bd m c := fun c hc => (nb_qd q c hc).bd m
variable {b : Bk} {n0 : Nat} {L : Qd} {many : Int} {NO A li mi ki : Nat} {lpO : Lp} {stopO : Qd → Bool} {XO : List Qd → List SB} {DO : List SB}
set_option maxHeartbeats 4000000 in
theorem wpc56 (b : Bk) (n0 : Nat) (L : Qd) (many : Int) (st : List SB) : WpC Tryz.prog is orc 56 [.agg (bkN b n0), L.u, .int .i64 many] st fun u st' => u = .fn 77 [] [.box (st.length + 1) 0, .box (st.length + 2) 0, .box st.length 0] ∧ st' = st ++ [.box (bkN b n0), .box L.cs, .box [.int .i64 many]] := by
  refine wpc_of body56 pure56 rfl rfl ?_
  refine k_seq ?_
  refine k_region ?_
  refine o_box rfl rfl ?_
  refine o_box rfl rfl ?_
  refine o_box rfl rfl ?_
  refine o_assign rfl ?_
  refine o_nil ?_
  refine k_gen [(3, .box st.length 0), (4, .box (st.length + 1) 0), (5, .box (st.length + 2) 0)] (st ++ [.box (bkN b n0), .box L.cs, .box [.int .i64 many]]) (.cons rfl (.cons (by show U.box (st ++ [SB.box _]).length 0 = _; simp) (.cons (by show U.box ((st ++ [SB.box _]) ++ [SB.box _]).length 0 = _; simp) (.nil rfl)))) (by show ((st ++ [_]) ++ [_]) ++ [_] = _; rw [List.append_assoc, List.append_assoc]; rfl) fun fr => ?_
  refine k_seq ?_
  refine k_region ?_
  refine o_func rfl ?_
  refine o_assign rfl ?_
  refine o_nil ?_
  refine k_ret ?_
  refine ⟨.inr rfl, _, .cons _ _ _ _ (.tmp 6) .nil, ?_⟩
  exact ⟨_, .refl _, rfl, rfl⟩
def rights (b : Bk) (L : Qd) (many : Int) : List Qd := (melts L many).filter (rightI b many)
theorem any_rights (b : Bk) (L : Qd) (many : Int) (p : Qd → Bool) : (melts L many).any (fun q => rightI b many q && p q) = (rights b L many).any p := by
  unfold rights
  rw [List.any_filter]
theorem ltM (h : SeenR b n0 L many NO A li mi ki lpO stopO XO DO) : A < NO ∧ li < NO ∧ mi < NO ∧ ki < NO := by
  have h0 := h.len []
  have f : ∀ {i x}, (XO [])[i]? = some x → i < NO := fun h1 => by have := (List.getElem?_eq_some_iff.1 h1).1; omega
  exact ⟨f (h.bl []), f (h.bL []), f (h.bm []), f (h.bk [])⟩
theorem lp70_bd (hm : mi < NO) (hk : ki < NO) (i : Nat) : Bd (NO + 3) ((lp70 NO mi ki).fr i) := by
  refine lookU_all (p := fun u => Bd (NO + 3) (dg u)) ?_ (Bd.junk _) i
  intro x hx
  simp only [List.mem_cons, List.not_mem_nil, or_false] at hx
  rcases hx with rfl | rfl | rfl | rfl
  · exact Bd.box (by omega)
  · exact Bd.box (by omega)
  · exact Bd.box (by omega)
  · refine Bd.fn (fun u hu => by cases hu) fun u hu => ?_
    simp only [List.mem_cons, List.not_mem_nil, or_false] at hu
    rcases hu with rfl | rfl <;> exact Bd.box (by omega)
theorem bd_Z3 (hA : A < NO) : ∀ x ∈ Z3 L many A, BdS (NO + 3) x := fun x hx => by
  simp only [List.mem_cons, List.not_mem_nil, or_false] at hx
  rcases hx with rfl | rfl | rfl
  · intro c hc; rcases List.mem_singleton.1 hc with rfl; exact Bd.yld (by omega)
  · exact fun c hc => bd_qd L _ c hc
  · intro c hc; rcases List.mem_singleton.1 hc with rfl; exact Bd.int _ _ _
set_option maxHeartbeats 4000000 in
theorem wpc77 (hi : Off is) (hb : Ok b) (hL : QOk L) (hmany : 0 ≤ many ∧ many ≤ 24) (h : SeenR b n0 L many NO A li mi ki lpO stopO XO DO) :
    WpC Tryz.prog is orc 77 [.yld A, .box li 0, .box mi 0, .box ki 0] (XO []) fun _ st' =>
      ((rights b L many).any stopO = false ∧ st' = XO (rights b L many)) ∨ ((rights b L many).any stopO = true ∧ st' = DO) := by
  obtain ⟨lA, ll, lm, lk⟩ := ltM h
  have hlen := h.len []
  have hZ : (XO [] ++ Z3 L many A).length = NO + 3 := by simp [hlen]
  have h0 : SeenM0 L many (NO + 3) (NO + 1) (NO + 2) (fun l => XO (l.filter (rightI b many)) ++ Z3 L many A) (DO ++ Z3 L many A) := by
    refine ⟨fun l => by simp [h.len], by simp [h.lenD], fun l x hx => ?_, fun x hx => ?_, fun l => ?_, fun l => ?_, by omega⟩
    · rcases List.mem_append.1 hx with hx | hx
      · exact BdS.mono (h.bd _ x hx) (by omega)
      · exact bd_Z3 lA x hx
    · rcases List.mem_append.1 hx with hx | hx
      · exact BdS.mono (h.bdD x hx) (by omega)
      · exact bd_Z3 lA x hx
    · rw [List.getElem?_append_right (by rw [h.len]; omega), h.len]; simp
    · rw [List.getElem?_append_right (by rw [h.len]; omega), h.len]; simp
  have hlp : ∀ i, Bd (NO + 3) ((lp70 NO mi ki).fr i) := lp70_bd lm lk
  have hs := h0.seen (stop := fun q => rightI b many q && stopO q) (ex := .ret) hlp (fun i => dg_noOwn _) ⟨11, rfl, rfl⟩ fun is orc hi l q e hq he => by
    have hy := yield70 (orc := orc) hb hmany h hi l q e hq he
    rw [← inn_eq] at hy
    refine WpY.mono hy fun u st' hu => ?_
    rcases hu with ⟨h1, h2, e', h3, h4⟩ | ⟨h1, h2, e', h3, h4⟩
    · exact .inl ⟨h1, h2, e', h3, by rw [h4, ← inn_eq]⟩
    · exact .inr ⟨h1, h2, e', h3, by rw [h4, ← inn_eq]⟩
  refine wpc_cut body77 pure77 rfl rfl ?_
  refine k_seq ?_
  refine k_region ?_
  refine o_box rfl rfl ?_
  refine o_nil ?_
  refine k_gen [(1, .box li 0), (2, .box mi 0), (3, .box ki 0), (4, .box NO 0)] (XO [] ++ [.box [.yld A]]) (.cons rfl (.cons rfl (.cons rfl (.cons (by show U.box (XO []).length 0 = _; rw [hlen]) (.nil rfl))))) rfl fun fr => ?_
  refine k_scope ?_
  refine k_seq ?_
  refine k_label ?_
  refine k_seq ?_
  refine k_region ?_
  refine o_loadN rfl rfl (by exact at_pre (h.bL [])) sh57 rfl ?_
  refine o_load1 rfl rfl (by exact at_pre (h.bm [])) sh3 rfl ?_
  refine o_callW rfl (wpc78 L many _) (.lrefl _) (fun u st1 hM => ?_)
  obtain ⟨rfl, rfl⟩ := hM
  refine o_nil ?_
  refine k_block ?_
  refine k_forget [(2, .box mi 0), (3, .box ki 0), (4, .box NO 0), (10, .fn 90 [] [.box (NO + 1) 0, .box (NO + 2) 0])] (XO [] ++ Z3 L many A) (.cons rfl (.cons rfl (.cons rfl (.cons (by
    show U.fn 90 [] [.box (XO [] ++ [SB.box _]).length 0, .box ((XO [] ++ [SB.box _]).length + 1) 0] = _
    rw [show (XO [] ++ [SB.box [.yld A]]).length = NO + 1 by simp [hlen]]) (.nil rfl))))) (by show (XO [] ++ [_]) ++ [_, _] = _; rw [List.append_assoc]; rfl) ?_
  have hw := wpc90 (is := is) (orc := orc) hi hL hmany h0 hs hlp
  rw [any_rights] at hw
  refine k_range (g := 90) rfl ?_
  show WpC Tryz.prog is orc 90 [.yld (XO [] ++ Z3 L many A).length, .box (NO + 1) 0, .box (NO + 2) 0] ((XO [] ++ Z3 L many A) ++ [.loop .ready (lp70 NO mi ki)]) _
  rw [hZ]
  refine hw.mono fun _ st' hst => ?_
  have fin : ∀ (P : List SB) (q : Lq), P.length = NO → (∀ x ∈ P, BdS NO x) → ((P ++ Z3 L many A) ++ [SB.loop q (lp70 NO mi ki)])[NO + 3]? = some (.loop q (lp70 NO mi ki)) ∧ ((P ++ Z3 L many A) ++ [SB.loop q (lp70 NO mi ki)]).take (NO + 3) = P ++ Z3 L many A ∧ (∀ y ∈ P ++ Z3 L many A, BdS (NO + 3) y) ∧ (P ++ Z3 L many A).take (XO []).length = P := by
    intro P q hP hbd
    have hl : (P ++ Z3 L many A).length = NO + 3 := by simp [hP]
    refine ⟨by rw [← hl]; exact at_new _ _, by rw [List.take_left' hl], fun y hy => ?_, by rw [hlen, List.take_left' hP]⟩
    rcases List.mem_append.1 hy with hy | hy
    · exact BdS.mono (hbd y hy) (by omega)
    · exact bd_Z3 lA y hy
  rcases hst with ⟨hno, rfl⟩ | ⟨hno, rfl⟩
  · obtain ⟨f1, f2, f3, f4⟩ := fin (XO (rights b L many)) .ready (h.len _) (h.bd _)
    refine ⟨.ready, f1, ?_, ?_⟩
    · show ∀ y ∈ ((XO (rights b L many) ++ Z3 L many A) ++ [SB.loop .ready (lp70 NO mi ki)]).take (NO + 3), _
      rw [f2]; exact f3
    · show _ ∧ _
      refine ⟨(fun l h => by cases h), .inl rfl, _, .nil, _, .refl _, Bd.tup (fun c hc => by cases hc), ?_, ?_, ?_⟩
      · show (XO []).length ≤ (((XO (rights b L many) ++ Z3 L many A) ++ [SB.loop .ready (lp70 NO mi ki)]).take (NO + 3)).length
        rw [f2]; simp [hlen, h.len]
      · show ∀ x ∈ (((XO (rights b L many) ++ Z3 L many A) ++ [SB.loop .ready (lp70 NO mi ki)]).take (NO + 3)).take (XO []).length, BdS (XO []).length x
        rw [f2, f4, hlen]; exact h.bd _
      · refine .inl ⟨hno, ?_⟩
        show (((XO (rights b L many) ++ Z3 L many A) ++ [SB.loop .ready (lp70 NO mi ki)]).take (NO + 3)).take (XO []).length = _
        rw [f2, f4]
  · obtain ⟨f1, f2, f3, f4⟩ := fin DO (.done .ret) h.lenD h.bdD
    refine ⟨.done .ret, f1, ?_, ?_⟩
    · show ∀ y ∈ ((DO ++ Z3 L many A) ++ [SB.loop (.done .ret) (lp70 NO mi ki)]).take (NO + 3), _
      rw [f2]; exact f3
    · show _ ∧ _
      refine ⟨(fun l h => by cases h), .inr rfl, _, .nil, _, .refl _, Bd.tup (fun c hc => by cases hc), ?_, ?_, ?_⟩
      · show (XO []).length ≤ (((DO ++ Z3 L many A) ++ [SB.loop (.done .ret) (lp70 NO mi ki)]).take (NO + 3)).length
        rw [f2]; simp [hlen, h.lenD]
      · show ∀ x ∈ (((DO ++ Z3 L many A) ++ [SB.loop (.done .ret) (lp70 NO mi ki)]).take (NO + 3)).take (XO []).length, BdS (XO []).length x
        rw [f2, f4, hlen]; exact h.bdD
      · refine .inr ⟨hno, ?_⟩
        show (((DO ++ Z3 L many A) ++ [SB.loop (.done .ret) (lp70 NO mi ki)]).take (NO + 3)).take (XO []).length = _
        rw [f2, f4]
end Go.Proofs.YtoldkckmenjknaaGreat.forgeFewest
